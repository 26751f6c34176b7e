import Derived.Test.YtffamlbkmjmipaaGreatDoorC11
import Derived.Test.YtffamlbkmjmipaaGreatDoorC15
import Derived.Test.YtffamlbkmjmipaaGreatDoorC28
import Derived.Lib.AppendStr
import Derived.Lib.SmallJoins
import Derived.Lib.Atoi
set_option maxHeartbeats 8000000
set_option maxRecDepth 100000
namespace Go.Proofs.YtffamlbkmjmipaaGreatDoor
open _root_.Go.Proofs.Tryz
namespace fX
open Go.RowKit bA Go.Lib
variable{P:Program}
def kW(l:List UInt8):List Value:=l.map fun b=> .int .u8 (b.toNat:Int)
theorem uR(a b:List UInt8):kW (a++b)=kW a++kW b:=by simp[kW]
theorem lG(w:World)(base:Nat)(t u ty e:TypeId)(i:TypeInfo)(ht:P.underlying t=some (.slice e))(hu:P.underlying u=some .string)(hi:P.info? e=some i)(hz:i.zero=some (.int .u8 0))(gy:i.size=1)(tC:i.bytes=1)(v:Value)(n:Nat)(xs:List Value)(cQ:w.ownsRow base e 1 v n xs)(s:ByteArray)(yx:n+s.size<=maxLen)(eU:n+s.size<=140737488355328)(Jo:base<=w.heap.size): ∃v' w',(Builtin.append_ #[t,u] ty #[v, .string s]).run P w= .ok v' w'∧w'.ownsRow base e 1 v' (n+s.size) (xs++strCells s)∧w.grownBy w' v.ownBlock∧(v'.ownBlock=v.ownBlock∨v'.ownBlock=some w.heap.size):=by
 obtain⟨v',w',hr,ho,hg,_⟩:=run_append_own_string (P:=P) w base t u ty e i ht hu hi hz gy tC v n xs cQ s yx eU Jo;refine⟨v',w',hr,ho,hg, ?_⟩;have L1:xs.length=n:=by simpa using cQ.1
 rcases cQ.2 with⟨rfl,rfl⟩|⟨g,cap,cur,rfl,hbg,hgh,hnc,ve,hcs,Pq⟩
 ·by_cases hm:s.size=0
  ·have BD:(Builtin.append_ #[t,u] ty #[.slice none 0 0, .string s]).run P w= .ok (.slice none 0 0) w:=by
    have hf:=run_firstCells_string (P:=P) w 1 s;rw[hm]at hf;simp[Builtin.append_,run_underlying ht,run_underlying hu,sizeOf,typeInfo,hi,gy,Builtin.lenOf,hm,hf]
   rw[BD]at hr;cases hr;exact Or.inl rfl
  ·have Un:s.size<=9223372036854775807:=by simp only[maxLen]at yx;omega
   have BD:=run_append_nil_string (P:=P) w t u ty e i (.int .u8 0) ht hu hi hz s (by omega) (by omega) (by rw[tC];omega);rw[BD]at hr;cases hr;exact Or.inr rfl
 ·by_cases q8:n+s.size<=cap
  ·have Fk:cur.size=cap:=by simpa using hcs
   have BD:=run_append_room_string (P:=P) w t u ty e i ht hu hi gy g n cap cur hgh s q8 (by omega);rw[BD]at hr;cases hr;exact Or.inl rfl
  ·have holds: ∀j u,xs[j]?=some u->w.cell? ((⟨g,0,none⟩:Addr).add j)=some u:=cQ.cells (g:=g) rfl;have Un:n+s.size<=9223372036854775807:=by simp only[maxLen]at yx;omega
   have BD:=run_append_grow_string (P:=P) w t u ty e i (.int .u8 0) ht hu hi hz ⟨g,0,none⟩ n cap xs (by rw[gy];simpa using L1) holds s (by omega) (by omega) (by rw[tC];exact growslice_fits (by omega) (by omega));rw[BD]at hr;cases hr;exact Or.inr rfl
theorem nP{ops:Array Oper}{o:Oper}{a:Act}{w:World}{K:Act->World->Prop}{Q:Exit->Act->World->Prop}{E:Prop}(JD:o.guard=none)(sl x:Operand)(t u:TypeId)(ho:o.op= .call {callee:= .builtin .append,args:= #[sl,x],argTypes:= #[t,u]})(base:Nat)(e:TypeId)(i:TypeInfo)(ht:P.underlying t=some (.slice e))(hu:P.underlying u=some .string)(hi:P.info? e=some i)(hz:i.zero=some (.int .u8 0))(gy:i.size=1)(tC:i.bytes=1)(v:Value)(n:Nat)(xs:List Value)(hs:a.eval sl=v)(cQ:w.ownsRow base e 1 v n xs)(s:ByteArray)(hx:a.eval x= .string s)(yx:n+s.size<=maxLen)(eU:n+s.size<=140737488355328)(Jo:base<=w.heap.size)(h: ∀v' w',w'.ownsRow base e 1 v' (n+s.size) (xs++strCells s)->w.grownBy w' v.ownBlock->(v'.ownBlock=v.ownBlock∨v'.ownBlock=some w.heap.size)->K (a.put o.dst v') w'):if Region.wanted o (yielded ops a.tmps)=true then Oper.wp P o a w K Q else E:=by
 have hw:Region.wanted o (yielded ops a.tmps)=true:=by simp[Region.wanted,JD]
 rw[if_pos hw];obtain⟨v',w',hr,h2,h3,h4⟩:=lG (P:=P) w base t u o.type e i ht hu hi hz gy tC v n xs cQ s yx eU Jo;unfold Oper.wp execOp;simp only[ho,resolve,invoke,builtin,Sem.run_bind,Sem.run_pure,Result.andThen_ok,List.map_toArray,List.map_cons,List.map_nil,hs,hx,hr];exact h v' w' h2 h3 h4
theorem infoByte:(prog.info? 5).map (fun i=>(i.zero,i.size,i.bytes))=some (some (.int .u8 0),1,1):=by kernel_rfl
theorem Ib(r:List UInt8)(s:ByteArray){k:Nat}(hr:r.length<=81)(hk:min (81-r.length) s.size=k):r++(s.extract 0 k).data.toList=(r++s.data.toList).take 81:=by
 rw[zo];show r++s.data.toList.take k=_;rw[List.take_append,List.take_of_length_le hr];congr 1;have e:s.data.toList.length=s.size:=by simp
 by_cases h:81-r.length<=s.size
 ·rw[<-hk,Nat.min_eq_left h]
 ·rw[<-hk,Nat.min_eq_right (by omega),List.take_of_length_le (by omega),List.take_of_length_le (by omega)]
theorem Gi{w:World}{base:Nat}{e:TypeId}{ao:Option Addr}{n cap:Nat}{xs:List Value}(h:w.ownsRow base e 1 (.slice ao n cap) n xs):w.ownsRow base e 1 (.slice ao 0 cap) 0 []:=by
 refine⟨rfl, ?_⟩;rcases h.2 with⟨h1,h0⟩|⟨g,bO,cur,h1,hb,hg,hn,hm,hs,ht⟩
 ·cases h1;exact Or.inl ⟨rfl,rfl⟩
 ·cases h1;exact Or.inr ⟨g,_,cur,rfl,hb,hg,bk _,hm,hs,by simp⟩
end fX
namespace bA
open Go.RowKit
variable{base:Nat}{bL:World}{l:List UInt8}
structure Says(base:Nat)(bL:World)(g:Nat)(p:List UInt8->Bool):Prop where
 enter: ∀args w,(callFunc g args).run prog w= .ok (.enter g args) w
 says: ∀(s:ByteArray) (w:World),s.size<=4194304->Below base bL w->Calls prog g #[.string s] w fun e w'=>e= .returned (.bool (p s.data.toList))∧Below w.heap.size w w'
theorem zY(L:ig base bL):Says base bL 178 rT:=by refine⟨enters_of func178 (by kernel_rfl) rfl,fun s w hs hb=> ?_⟩;have HC:Calls _ _ _ _ fun e w'=>e= .returned (.bool (rT s.data.toList))∧Below w.heap.size w w':=k9 L _ fP lu s 6 w hs hb;generalize rT s.data.toList=b at*;go_enter func178,ntmps178;go_wp2_with fail;refine HC.mono ?_;rintro e w1⟨rfl,bP⟩;go_wp2;go_ret;exact⟨rfl,bP⟩
theorem oM(L:ig base bL):Says base bL 179 qM:=by refine⟨enters_of func179 (by kernel_rfl) rfl,fun s w hs hb=> ?_⟩;have HC:Calls _ _ _ _ fun e w'=>e= .returned (.bool (qM s.data.toList))∧Below w.heap.size w w':=k9 L _ zZ nA s 12 w hs hb;generalize qM s.data.toList=b at*;go_enter func179,ntmps179;go_wp2_with fail;refine HC.mono ?_;rintro e w1⟨rfl,bP⟩;go_wp2;go_ret;exact⟨rfl,bP⟩
theorem Kk(h: ∀i,i<l.length->byteAt l i<128): ∀(f i:Nat),l.length<=i+f->iW l f i=some ((l.drop i).map fun c=>(c.toNat:Int)):=by
 intro f
 induction f with
 |zero=>intro i hi;unfold iW;rw[lZ _ _ (by omega),List.drop_eq_nil_of_le (by omega)];rfl
 |succ f ih=>
  intro i hi;by_cases hl:i<l.length
  ·have h1:=FK l i (h i hl);have FE:=ih (i+1) (by omega);have tC:byteAt l i=(l[i].toNat:Int):=by
    unfold byteAt;rw[aV hl];rfl
   unfold iW at FE⊢;rw[kF _ _ _ _ hl h1,FE,tC,<-List.getElem_cons_drop (h:=hl),List.map_cons];rfl
  ·unfold iW;rw[lZ _ _ hl,List.drop_eq_nil_of_le (by omega)];rfl
theorem AH(h:(dE l).2=true):fL ia 6 l=true:=by
 unfold dE at h;split at h
 ·rename_i hc;simp only[a8,decide_eq_true_eq]at hc;obtain⟨⟨⟨h1,h2⟩,_⟩,h4⟩:=hc;unfold rJ at h4;rw[List.all_eq_true]at h4;have hb: ∀i,i<l.length->byteAt l i<128:=fun i hi=>by
   have:=h4 l[i] (bY hi);unfold wo at this;simp only[a8,decide_eq_true_eq]at this;unfold byteAt;rw[aV hi];show((l[i]).toNat:Int)<128;omega
  have hl:lets l=some (l.map fun c=>(c.toNat:Int)):=Kk hb l.length 0 (by omega);rw[kM hl,List.all_map];have:l.all ((fun c=>ia c)∘fun c:UInt8=>(c.toNat:Int))=true:=by rw[List.all_eq_true];intro c hc;exact h4 c hc
  simp only[aR,a8,decide_eq_true_eq];exact⟨⟨this,h1⟩,h2⟩
 ·cases h
theorem zX(L:ig base bL):Says base bL 217 (fun l=>(dE l).2):=by
 refine⟨enters_of func217 (by kernel_rfl) rfl,fun s w hs hb=> ?_⟩;have HC:=k9 L _ ia vr s 6 w hs hb;cases hw:fL ia 6 s.data.toList
 ·have HN:Hid ((dE s.data.toList).2=false):=by
   show _=_;cases hn:(dE s.data.toList).2 with
   |false=>rfl
   |true=>rw[AH hn]at hw;cases hw
  rw[hw]at HC;go_enter func217,ntmps217;go_wp2_with fail;refine HC.mono ?_;rintro e w1⟨rfl,bP⟩;go_wp2;go_ret;exact⟨cZ HN.out.symm,bP⟩
 ·rw[hw]at HC;have hp:0<s.size:=by have:=pI hw;omega
  have H1:Hid (s.toList= [48]->(dE s.data.toList).2=true):=fun e=>KD hw (fun h'=>by rw[ByteArray.toList_eq]at e;have:=congrArg List.length e;rw[slen]at this;have:=h'.1;simp at*;omega)
  have H2:Hid ((s[0].toNat:Int)≠48->(dE s.data.toList).2=true):=fun e=>KD hw (fun h'=>e h'.2);have H3:Hid ((s[0].toNat:Int)=48->s.toList≠ [48]->(dE s.data.toList).2=false):=fun e h'=>by
   have h1:1<s.size:=by
    apply Classical.byContradiction;intro hn;have cY:s.size=1:=by omega
    apply h';rw[ByteArray.toList_eq];have hl:s.data.toList.length=1:=by rw[slen];exact cY
    have e0:s.data.toList[0]'(by omega)=48:=by apply UInt8.toNat.inj;show(s[0]).toNat=48;omega
    match hd:s.data.toList,hl with
    | [a],_=>simp only[hd,List.getElem_cons_zero]at e0;rw[e0]
   rw[AG s h1 (by simpa using e)]
  clear hw;go_enter func217,ntmps217;go_wp2_with fail;refine HC.mono ?_;rintro e w1⟨rfl,bP⟩;clear HC;go_wp2
  ·rename_i he;go_ret;exact⟨cZ (H1.out he).symm,bP⟩
  ·rename_i he;go_ret;refine⟨cZ ?_,bP⟩;by_cases Vc:(s[0].toNat:Int)=48
   ·rw[H3.out Vc he];simp[he,Vc]
   ·rw[H2.out Vc];simp[Vc]
theorem DI: ∀(l:List UInt8) (acc:Nat),rJ l=true-> ∃m:Nat,Lib.decFrom acc l=some m∧(m:Int)=l.foldl (fun n c=>10*n+((c.toNat:Int)-48)) (acc:Int)
 | [],acc,_=>⟨acc,rfl,rfl⟩
 |c::l,acc,h=>by
  unfold rJ at h;rw[List.all_cons,a8]at h;have hc:=h.1;unfold wo at hc;simp only[a8,decide_eq_true_eq]at hc;obtain⟨m,h1,h2⟩:=DI l (acc*10+(c.toNat-48)) h.2;refine⟨m, ?_, ?_⟩
  ·unfold Lib.decFrom;have:Lib.digitVal c=some (c.toNat-48):=by unfold Lib.digitVal;rw[if_pos (by omega)]
   rw[this];exact h1
  ·rw[h2,List.foldl_cons];congr 1;omega
theorem Ii{l:List UInt8}(h:(dE l).2=true):Lib.atoi l=some (dE l).1:=by
 unfold dE at h⊢;split at h
 ·rename_i hc;rw[if_pos hc];simp only[a8,decide_eq_true_eq]at hc;obtain⟨⟨⟨h1,_⟩,_⟩,h4⟩:=hc
  match l,h1,h4 with
  |c::r,_,h4=>
   obtain⟨m,e1,e2⟩:=DI (c::r) 0 h4;have hd:=h4;unfold rJ at hd;rw[List.all_cons,a8]at hd;have hc:=hd.1;unfold wo at hc;simp only[a8,decide_eq_true_eq]at hc;have n1:(c==45)=false:=by
    cases e:c==45 with
    |false=>rfl
    |true=>rw[beq_iff_eq]at e;rw[e]at hc;simp at hc
   have n2:(c==43)=false:=by
    cases e:c==43 with
    |false=>rfl
    |true=>rw[beq_iff_eq]at e;rw[e]at hc;simp at hc
   unfold Lib.atoi;dsimp only;rw[if_neg (by simp[n1]),if_neg (by simp[n2])];unfold Lib.decNat;rw[if_neg (by simp),e1];show some (m:Int)=_;rw[e2];rfl
 ·cases h
structure Ds where
 g:Nat
 lb:Array Value
 k:Nat
 p:List UInt8->Bool
 val:List UInt8->Value
structure Ds.ok(q:Nat)(f:Ds)(w:World):Prop where
 enter: ∀args w,(callFunc f.g args).run prog w= .ok (.enter f.g args) w
 says: ∀(s:ByteArray) (wr:World) (cs:Array Value),s.size<=4194304->Only (fun b=>b=q) w wr->wr.heap[q]?=some (.cells cs 149 (0,0))->cs.size=5->
  Calls prog f.g (#[.string s]++f.lb) wr fun e w'=>e= .returned (.bool (f.p s.data.toList))∧Only (fun b=>b=q) wr w'∧(f.p s.data.toList=true->w'.heap[q]?=some (.cells (cs.setIfInBounds f.k (f.val s.data.toList)) 149 (0,0)))
def cd:List Ds->List (List UInt8)->Bool
 | [], []=>true
 |f::fs,x::ws=>f.p x &&cd fs ws
 |_,_=>false
def gI:List Ds->List (List UInt8)->Array Value->Array Value
 |f::fs,x::ws,cs=>gI fs ws (cs.setIfInBounds f.k (f.val x))
 |_,_,cs=>cs
theorem B9(f:Ds)(fs:List Ds)(x:List UInt8)(ws:List (List UInt8)):cd (f::fs) (x::ws)=(f.p x &&cd fs ws):=rfl
theorem F8(f:Ds)(fs:List Ds)(x:List UInt8)(ws:List (List UInt8))(cs:Array Value):gI (f::fs) (x::ws) cs=gI fs ws (cs.setIfInBounds f.k (f.val x)):=rfl
theorem ft{q:Nat}{w w':World}(h:Below w.heap.size w w'):Only (fun b=>b=q) w w':=⟨h.os,h.tape,h.output,h.size,fun k hk _=>h.block k hk⟩
theorem vU: ∀{fs:List Ds} {ws:List (List UInt8)},ws.length≠fs.length->cd fs ws=false
 | [], [],h=>absurd rfl h
 | [],_::_,_=>rfl
 |_::_, [],_=>rfl
 |f::fs,x::ws,h=>by unfold cd;rw[vU (fs:=fs) (ws:=ws) (fun e=>h (by simp[e])),Bool.and_false]
theorem DT(q:Nat)(ws:List (List UInt8))(fs:List Ds)(ao bo:Option Addr)(a b cap Wo:Nat)(w:World)(cs:Array Value)(hf: ∀f∈fs,f.ok q w)(hq:w.heap[q]?=some (.cells cs 149 (0,0)))(hcs:cs.size=5)(ck:0<ws.length->ao=some ⟨a,1,none⟩∧a<w.heap.size∧a≠q)(Fg:0<fs.length->bo=some ⟨b,0,none⟩∧b<w.heap.size∧b≠q)(jZ: ∀x∈ws,x.length<=4194304)(ny:fs.length<=3)(jg:ws.length<=4194304)(kU: ∀i (h:i<ws.length),w.cell? ⟨a,1+i,none⟩=some (.string ⟨(ws[i]'h).toArray⟩))(W7: ∀i (h:i<fs.length),w.cell? ⟨b,i,none⟩=some (.func (.func (fs[i]'h).g) #[] (fs[i]'h).lb)):Calls prog 176 #[.slice ao ws.length cap, .slice bo fs.length Wo] w fun e w'=>e= .returned (.bool (cd fs ws))∧Only (fun b=>b=q) w w'∧(cd fs ws=true->w'.heap[q]?=some (.cells (gI fs ws cs) 149 (0,0))):=by
 by_cases hl:ws.length=fs.length
 ·obtain⟨n,hn⟩: ∃n,fs.length=n:=⟨_,rfl⟩;have QK:ws.length=n:=hl.trans hn;rw[QK,hn];rw[hn]at ny Fg;rw[QK]at ck;have HW:Hid (∀f∈fs,f.ok q w):=hf;have HS:Hid (∀x∈ws,x.length<=4194304):=jZ;have U0:Hid (∀i (h:i<ws.length),w.cell? ⟨a,1+i,none⟩=some (.string ⟨(ws[i]'h).toArray⟩)):=kU;have UZ:Hid (∀i (h:i<fs.length),w.cell? ⟨b,i,none⟩=some (.func (.func (fs[i]'h).g) #[] (fs[i]'h).lb)):=W7;have Sn:Hid (ws.length=n):=QK;have lL:Hid (fs.length=n):=hn;have HQ:Hid (Only (fun b=>b=q) w w∧ ∃cs',w.heap[q]?=some (.cells cs' 149 (0,0))∧cs'.size=5∧cd fs ws=cd (fs.drop 0) (ws.drop 0)∧gI fs ws cs=gI (fs.drop 0) (ws.drop 0) cs'):=⟨Only.refl _ _,cs,hq,hcs,by simp,by simp⟩;clear hf jZ kU W7 hl hn QK hq hcs;go_enter func176,ntmps176;go_wp2;go_loopw [14] (fun i wr=> ∃k:Nat,k<=n∧i= .int .i64 k∧Hid (Only (fun b=>b=q) w wr∧ ∃cs',wr.heap[q]?=some (.cells cs' 149 (0,0))∧cs'.size=5∧cd fs ws=cd (fs.drop k) (ws.drop k)∧gI fs ws cs=gI (fs.drop k) (ws.drop k) cs')) (fun i _=>n-(intOf i).toNat)
  case atStart=>exact⟨0,bk _,rfl,HQ⟩
  case round=>
   obtain⟨k,hk,rfl,HD⟩:=hrel;by_cases aQ:k<n
   ·obtain⟨rfl,Na,haq⟩:=ck (by omega);obtain⟨rfl,kA,Tv⟩:=Fg (by omega);have D6:k<ws.length:=by rw[Sn.out];exact aQ
    have kh:k<fs.length:=by rw[lL.out];exact aQ
    obtain⟨ho,cs',FA,Fk,e1,e2⟩:=HD.out;have c1:wr.cell? ⟨a,1+k,none⟩=some (.string ⟨(ws[k]'D6).toArray⟩):=by have:=U0.out k D6;simp only[World.cell?,ho.block a Na haq]at this⊢;exact this
    have c2:wr.cell? ⟨b,k,none⟩=some (.func (.func (fs[k]'kh).g) #[] (fs[k]'kh).lb):=by have:=UZ.out k kh;simp only[World.cell?,ho.block b kA Tv]at this⊢;exact this
    have LR:=HW.out _ (bY kh);have eg:=LR.enter;have d1:fs.drop k=fs[k]::fs.drop (k+1):=(List.getElem_cons_drop (h:=kh)).symm;have d2:ws.drop k=ws[k]::ws.drop (k+1):=(List.getElem_cons_drop (h:=D6)).symm;rw[d1,d2]at e1 e2;rw[B9]at e1;rw[F8]at e2;have U4:Hid (Calls prog (fs[k]'kh).g (#[.string ⟨(ws[k]'D6).toArray⟩]++(fs[k]'kh).lb) wr fun e w'=>e= .returned (.bool ((fs[k]'kh).p (ws[k]'D6)))∧Only (fun b=>b=q) wr w'∧((fs[k]'kh).p (ws[k]'D6)=true->w'.heap[q]?=some (.cells (cs'.setIfInBounds (fs[k]'kh).k ((fs[k]'kh).val (ws[k]'D6))) 149 (0,0)))):=
     LR.says ⟨(ws[k]'D6).toArray⟩ wr cs' (by simpa[ByteArray.size]using HS.out _ (bY D6)) ho FA Fk
    cases hp:(fs[k]'kh).p (ws[k]'D6)
    ·have pJ:Hid (cd fs ws=false∧Only (fun b=>b=q) w wr):=⟨by rw[e1,hp];rfl,ho⟩;rw[hp]at U4;clear U0 UZ HW HS HD ck Fg Sn lL ho FA Fk e1 e2 d1 d2 LR HQ hp;generalize(fs[k]'kh).g=g at*;generalize(fs[k]'kh).lb=lb at*;generalize(⟨(ws[k]'D6).toArray⟩:ByteArray)=t at*;go_wp2_with (go_at_fn g;go_must(refine U4.out.mono ?_;rintro e w1⟨rfl,Vv,_⟩));go_ret;exact⟨cZ pJ.out.1.symm,pJ.out.2.trans Vv (fun _ _ h=>h),fun h=>by rw[pJ.out.1]at h;cases h⟩
    ·have HYE:Hid (∀w1,Only (fun b=>b=q) wr w1->w1.heap[q]?=some (.cells (cs'.setIfInBounds (fs[k]'kh).k ((fs[k]'kh).val (ws[k]'D6))) 149 (0,0))->Hid (Only (fun b=>b=q) w w1∧ ∃cs',w1.heap[q]?=some (.cells cs' 149 (0,0))∧cs'.size=5∧cd fs ws=cd (fs.drop (k+1)) (ws.drop (k+1))∧gI fs ws cs=gI (fs.drop (k+1)) (ws.drop (k+1)) cs')):=fun w1 h1 h2=>⟨ho.trans h1 (fun _ _ h=>h),_,h2,by simpa using Fk,by rw[e1,hp,Bool.true_and],e2⟩;rw[hp]at U4;clear U0 UZ HW HS HD ck Fg Sn lL ho FA Fk e1 e2 d1 d2 LR HQ hp;generalize(cs'.setIfInBounds (fs[k]'kh).k ((fs[k]'kh).val (ws[k]'D6)))=cs2 at*;generalize(fs[k]'kh).g=g at*;generalize(fs[k]'kh).lb=lb at*;generalize(⟨(ws[k]'D6).toArray⟩:ByteArray)=t at*;go_wp2_with (go_at_fn g;go_must(refine U4.out.mono ?_;rintro e w1⟨rfl,Vv,uJ⟩;have HI:=HYE.out w1 Vv (uJ rfl);clear Vv uJ));go_roundw
     case rel=>exact⟨k+1,by omega,by go_num,HI⟩
     case measure=>simp[intOf];omega
   ·obtain rfl:k=n:=by omega
    have HF:Hid (cd fs ws=true∧Only (fun b=>b=q) w wr∧wr.heap[q]?=some (.cells (gI fs ws cs) 149 (0,0))):=by obtain⟨ho,cs',FA,Fk,e1,e2⟩:=HD.out;have d1:fs.drop k= []:=List.drop_eq_nil_of_le (by rw[lL.out];exact af _);have d2:ws.drop k= []:=List.drop_eq_nil_of_le (by rw[Sn.out];exact af _);rw[d1,d2]at e1 e2;exact⟨e1,ho,by rw[e2];exact FA⟩
    clear U0 UZ HW HS HD ck Fg Sn lL HQ;go_wp2;go_ret;exact⟨cZ HF.out.1.symm,HF.out.2.1,fun _=>HF.out.2.2⟩
 ·have cz:((ws.length:Int) !=fs.length)=true:=by rw[bne_iff_ne];omega
  have pJ:Hid (cd fs ws=false):=vU hl;clear kU W7 jZ hf ck Fg hq hcs hl;generalize tH:ws.length=n at*;generalize Xu:fs.length=m at*;clear tH Xu;go_enter func176,ntmps176;go_wp2;go_ret;exact⟨cZ pJ.out.symm,Only.refl _ _,fun h=>by rw[pJ.out]at h;cases h⟩
end bA
namespace bA
open Go.RowKit
attribute [local go_sem] aP.ae aP.ah
variable{base q b k:Nat}{bL w:World}
def cG(b k:Nat):Ds:=⟨216, #[.pointer (some ⟨b,0,none⟩)],k,fun l=>(dE l).2,fun l=> .int .i64 (dE l).1⟩
def dM(b b2 k:Nat)(p:List UInt8->Bool):Ds:=⟨219, #[.pointer (some ⟨b,0,none⟩), .pointer (some ⟨b2,0,none⟩)],k,p,fun l=> .string ⟨l.toArray⟩⟩
theorem sO{wr:World}(hb:Below base bL w)(hq:base<=q)(hB:base<=w.heap.size)(h:Only (fun b=>b=q) w wr):Below base bL wr:=hb.trans (h.toBelow (fun _ hk=>hk▸hq) hB)
theorem iH(L:ig base bL)(hb:Below base bL w)(hB:base<=w.heap.size)(hq:base<=q)(Tv:b≠q)(kA:b<w.heap.size)(hk:k<5)(hc:w.cell? ⟨b,0,none⟩=some (.pointer (some ⟨q,k,none⟩))):(cG b k).ok q w:=by
 refine⟨enters_of func216 (by kernel_rfl) rfl,fun s wr cs hs ho fY hcs=> ?_⟩;have tB:=sO hb hq hB ho;have HN:=(zX L).says s wr hs tB;have pN:q<wr.heap.size:=(bZ.1 fY).1;have W5:b<wr.heap.size:=bE kA ho.size;have Tx:wr.cell? ⟨b,0,none⟩=some (.pointer (some ⟨q,k,none⟩)):=by simp only[World.cell?,ho.block b kA Tv]at hc⊢;exact hc
 show Calls prog 216 #[.string s, .pointer (some ⟨b,0,none⟩)] wr fun e w'=>e= .returned (.bool (dE s.data.toList).2)∧Only (fun b=>b=q) wr w'∧((dE s.data.toList).2=true->w'.heap[q]?=some (.cells (cs.setIfInBounds k (.int .i64 (dE s.data.toList).1)) 149 (0,0)));cases hn:(dE s.data.toList).2
 ·rw[hn]at HN;clear hc Tx fY;go_enter func216,ntmps216;go_wp2_with (first|(go_at_call 217;go_must(refine HN.mono ?_;rintro e w1⟨rfl,bP⟩)));go_ret;exact⟨rfl,ft bP,fun h=>by cases h⟩
 ·rw[hn]at HN;have cY:s.size<=6:=(pI (AH hn)).2.1;have HA:Hid (∀w1,Calls prog 218 #[.string s] w1 fun e w'=>e= .returned (.tuple #[.int .i64 (dE s.data.toList).1, .nilIface])∧Below w1.heap.size w1 w'):=fun w1=>by
   refine(Any.strconv_Atoi atoi s (dE s.data.toList).1 (by omega) (Ii hn) w1).mono ?_;rintro e w'⟨rfl,t,rfl⟩;exact⟨rfl,Go.Joins.below_bytesWorld _ _ _ _ (af _)⟩
  have HC:Hid (∀w2,Below wr.heap.size wr w2->w2.cell? ⟨b,0,none⟩=some (.pointer (some ⟨q,k,none⟩))∧(∃y,w2.cell? ⟨q,k,none⟩=some y)∧w2.frozen? ⟨q,k,none⟩=false∧ ∀v,Only (fun b=>b=q) wr (w2.setCell ⟨q,k,none⟩ v)∧(w2.setCell ⟨q,k,none⟩ v).heap[q]?=some (.cells (cs.setIfInBounds k v) 149 (0,0))):=fun w2 h2=>by have tJ:w2.heap[q]?=some (.cells cs 149 (0,0)):=(h2.block q pN).trans fY;refine⟨by rw[h2.cell (p:=⟨b,0,none⟩) W5];exact Tx,⟨cs[k]'(by omega), ?_⟩,by simp only[World.frozen?,tJ];simp,fun v=>⟨(ft h2).setCell _ _ (fun _=>rfl),heap_setCell_same w2 q k cs _ v tJ⟩⟩;simp only[World.cell?,tJ];exact Array.getElem?_eq_getElem (by omega)
  generalize(dE s.data.toList).1=num at*;clear hc Tx fY hn hb tB;go_enter func216,ntmps216;go_wp2_with (first
   |(go_at_call 217;go_must(refine HN.mono ?_;rintro e w1⟨rfl,bP⟩))
   |(go_at_call 218;go_must(refine(HA.out _).mono ?_;rintro e w2⟨rfl,cL⟩;obtain⟨c1,⟨y,c2⟩,f2,hset⟩:=HC.out w2 (bP.trans (cL.mono bP.size));have Sy:=hset (.int .i64 num);have O0:Hid (_∧_):=Sy;clear hset Sy)))
  go_ret;exact⟨rfl,O0.out.1,fun _=>O0.out.2⟩
theorem nQ{b2:Nat}{p:List UInt8->Bool}{g:Nat}(S:Says base bL g p)(hb:Below base bL w)(hB:base<=w.heap.size)(hq:base<=q)(Tv:b≠q)(kA:b<w.heap.size)(Tw:b2≠q)(Ff:b2<w.heap.size)(hk:k<5)(hc:w.cell? ⟨b,0,none⟩=some (.pointer (some ⟨q,k,none⟩)))(Nc:w.cell? ⟨b2,0,none⟩=some (.func (.func g) #[] #[])):(dM b b2 k p).ok q w:=by
 refine⟨enters_of func219 (by kernel_rfl) rfl,fun s wr cs hs ho fY hcs=> ?_⟩;have pN:q<wr.heap.size:=(bZ.1 fY).1;have d1:wr.cell? ⟨b,0,none⟩=some (.pointer (some ⟨q,k,none⟩)):=by simp only[World.cell?,ho.block b kA Tv]at hc⊢;exact hc
 have o1:Only (fun b=>b=q) wr (wr.setCell ⟨q,k,none⟩ (.string s)):=(Only.refl _ _).setCell _ _ (fun _=>rfl);have d2:(wr.setCell ⟨q,k,none⟩ (.string s)).cell? ⟨b2,0,none⟩=some (.func (.func g) #[] #[]):=by
  have h2:(wr.setCell ⟨q,k,none⟩ (.string s)).heap[b2]?=w.heap[b2]?:=by rw[o1.block b2 (bE Ff ho.size) Tw,ho.block b2 Ff Tw]
  simp only[World.cell?,h2]at Nc⊢;exact Nc
 have cq:wr.cell? ⟨q,k,none⟩=some (cs[k]'(by omega)):=by simp only[World.cell?,fY];exact Array.getElem?_eq_getElem (by omega)
 have fq:wr.frozen? ⟨q,k,none⟩=false:=by simp only[World.frozen?,fY];simp
 have uJ:=heap_setCell_same wr q k cs _ (.string s) fY;have tB:Below base bL (wr.setCell ⟨q,k,none⟩ (.string s)):=sO hb hq hB (ho.trans o1 (fun _ _ h=>h));have HM:Hid (Calls prog g #[.string s] (wr.setCell ⟨q,k,none⟩ (.string s)) fun e w'=>e= .returned (.bool (p s.data.toList))∧Below (wr.setCell ⟨q,k,none⟩ (.string s)).heap.size (wr.setCell ⟨q,k,none⟩ (.string s)) w'):=S.says s _ hs tB;have eg:=S.enter;have HF:Hid (∀w',Below (wr.setCell ⟨q,k,none⟩ (.string s)).heap.size (wr.setCell ⟨q,k,none⟩ (.string s)) w'->Only (fun b=>b=q) wr w'∧w'.heap[q]?=some (.cells (cs.setIfInBounds k (.string s)) 149 (0,0))):=fun w' h=>⟨o1.trans (ft h) (fun _ _ h=>h),(h.block q (by simpa[World.setCell]using pN)).trans uJ⟩;show Calls prog 219 #[.string s, .pointer (some ⟨b,0,none⟩), .pointer (some ⟨b2,0,none⟩)] wr fun e w'=>e= .returned (.bool (p s.data.toList))∧Only (fun b=>b=q) wr w'∧(p s.data.toList=true->w'.heap[q]?=some (.cells (cs.setIfInBounds k (.string s)) 149 (0,0)));generalize p s.data.toList=pb at*;clear hc Nc fY uJ tB o1 ho S hb;go_enter func219,ntmps219;go_wp2_with (first
  |(go_at_fn g;go_must(refine HM.out.mono ?_;rintro e w1⟨rfl,bP⟩;have PQ:=HF.out w1 bP;clear bP)))
 go_ret;exact⟨rfl,PQ.1,fun _=>PQ.2⟩
theorem AJ(q k:Nat)(w:World):Calls prog 175 #[.pointer (some ⟨q,k,none⟩)] w fun e w'=>e= .returned (.func (.func 216) #[] #[.pointer (some ⟨w.heap.size,0,none⟩)])∧w'=w.alloc (.cells #[.pointer (some ⟨q,k,none⟩)] 236):=by go_enter func175,ntmps175;go_wp2;go_ret;exact⟨rfl,rfl⟩
theorem G8(q k g:Nat)(w:World):Calls prog 177 #[.pointer (some ⟨q,k,none⟩), .func (.func g) #[] #[]] w fun e w'=>e= .returned (.func (.func 219) #[] #[.pointer (some ⟨w.heap.size,0,none⟩), .pointer (some ⟨w.heap.size+1,0,none⟩)])∧w'=(w.alloc (.cells #[.pointer (some ⟨q,k,none⟩)] 239)).alloc (.cells #[.func (.func g) #[] #[]] 116):=by go_enter func177,ntmps177;go_wp2;go_ret;exact⟨by simp,rfl⟩
variable{q:Nat}
def cs0(k:List UInt8):Array Value:= #[.string ⟨k.toArray⟩, .int .i64 0, .int .i64 0, .string ⟨#[]⟩, .string ⟨#[]⟩]
theorem Dn(r:List (List UInt8)):(bm ([112,117,108,108]::r)).2=cd [] r∧(cd [] r=true->gI [] r (cs0 [112,117,108,108])=(bm ([112,117,108,108]::r)).1.cs):=by
 rcases r with _|⟨a,_|⟨b,_|⟨c,_|⟨d,r⟩⟩⟩⟩
 all_goals simp[bm,cd,gI,dI,dH,cR,gF,kFail,di,fQ,Mg.cs,cs0]
theorem Dk(r:List (List UInt8)):(bm ([98,101,97,116]::r)).2=cd [] r∧(cd [] r=true->gI [] r (cs0 [98,101,97,116])=(bm ([98,101,97,116]::r)).1.cs):=by
 rcases r with _|⟨a,_|⟨b,_|⟨c,_|⟨d,r⟩⟩⟩⟩
 all_goals simp[bm,cd,gI,dI,dH,cR,gF,kFail,di,fQ,Mg.cs,cs0]
theorem Bq(r:List (List UInt8)):(bm ([100,114,97,105,110]::r)).2=cd [] r∧(cd [] r=true->gI [] r (cs0 [100,114,97,105,110])=(bm ([100,114,97,105,110]::r)).1.cs):=by
 rcases r with _|⟨a,_|⟨b,_|⟨c,_|⟨d,r⟩⟩⟩⟩
 all_goals simp[bm,cd,gI,dI,dH,cR,gF,kFail,di,fQ,Mg.cs,cs0]
theorem Hb(N1:Nat)(r:List (List UInt8)):(bm ([99,97,110]::r)).2=cd [cG N1 1] r∧(cd [cG N1 1] r=true->gI [cG N1 1] r (cs0 [99,97,110])=(bm ([99,97,110]::r)).1.cs):=by
 rcases r with _|⟨a,_|⟨b,_|⟨c,_|⟨d,r⟩⟩⟩⟩
 all_goals simp[bm,cd,gI,dI,dH,cR,gF,kFail,di,fQ,cG,Mg.cs,cs0]
theorem Dm(N1 N2:Nat)(r:List (List UInt8)):(bm ([102,97,105,108]::r)).2=cd [cG N1 1,cG N2 2] r∧(cd [cG N1 1,cG N2 2] r=true->gI [cG N1 1,cG N2 2] r (cs0 [102,97,105,108])=(bm ([102,97,105,108]::r)).1.cs):=by
 rcases r with _|⟨a,_|⟨b,_|⟨c,_|⟨d,r⟩⟩⟩⟩
 all_goals simp[bm,cd,gI,dI,dH,cR,gF,kFail,di,fQ,cG,Mg.cs,cs0]
theorem Hc(N1 B1 B2 B3 B4:Nat)(r:List (List UInt8)):(bm ([115,117,98]::r)).2=cd [cG N1 1,dM B1 B2 3 rT,dM B3 B4 4 qM] r∧(cd [cG N1 1,dM B1 B2 3 rT,dM B3 B4 4 qM] r=true->gI [cG N1 1,dM B1 B2 3 rT,dM B3 B4 4 qM] r (cs0 [115,117,98])=(bm ([115,117,98]::r)).1.cs):=by
 rcases r with _|⟨a,_|⟨b,_|⟨c,_|⟨d,r⟩⟩⟩⟩
 all_goals simp[bm,cd,gI,dI,dH,cR,gF,kFail,di,fQ,cG,dM,Bool.and_assoc,Mg.cs,cs0]
theorem Dl(N1 N2 B1 B2:Nat)(r:List (List UInt8)):(bm ([100,111,110,101]::r)).2=cd [cG N1 1,cG N2 2,dM B1 B2 4 qM] r∧(cd [cG N1 1,cG N2 2,dM B1 B2 4 qM] r=true->gI [cG N1 1,cG N2 2,dM B1 B2 4 qM] r (cs0 [100,111,110,101])=(bm ([100,111,110,101]::r)).1.cs):=by
 rcases r with _|⟨a,_|⟨b,_|⟨c,_|⟨d,r⟩⟩⟩⟩
 all_goals simp[bm,cd,gI,dI,dH,cR,gF,kFail,di,cG,dM,Bool.and_assoc,Mg.cs,cs0]
theorem Br{k:List UInt8}(h0:(k== [112,117,108,108])=false)(h1:(k== [98,101,97,116])=false)(h2:(k== [100,114,97,105,110])=false)(h3:(k== [99,97,110])=false)(h4:(k== [102,97,105,108])=false)(h5:(k== [115,117,98])=false)(h6:(k== [100,111,110,101])=false)(r:List (List UInt8)):(bm (k::r)).2=false:=by
 have e:k≠ [112,117,108,108]∧k≠ [98,101,97,116]∧k≠ [100,114,97,105,110]∧k≠ [99,97,110]∧k≠ [102,97,105,108]∧k≠ [115,117,98]∧k≠ [100,111,110,101]:=⟨by simpa using h0,by simpa using h1,by simpa using h2,by simpa using h3,by simpa using h4,by simpa using h5,by simpa using h6⟩;obtain⟨e0,e1,e2,e3,e4,e5,e6⟩:=e;rcases r with _|⟨a,_|⟨b,_|⟨c,_|⟨d,r⟩⟩⟩⟩
 all_goals simp[bm,dI,dH,cR,gF,kFail,di,fQ,e0,e1,e2,e3,e4,e5,e6]
def fvs(fs:List Ds):Array Value:=(fs.map fun f=>Value.func (.func f.g) #[] f.lb).toArray
theorem xk(W:World)(r:List (List UInt8))(fs:List Ds)(ao:Option Addr)(a cap:Nat)(cs:Array Value)(hq:W.heap[q]?=some (.cells cs 149 (0,0)))(hcs:cs.size=5)(hf: ∀f∈fs,f.ok q (W.alloc (.cells (fvs fs) 234)))(ck:0<r.length->ao=some ⟨a,1,none⟩∧a<W.heap.size∧a≠q)(jZ: ∀x∈r,x.length<=4194304)(jg:r.length<=4194304)(ny:fs.length<=3)(kU: ∀i (h:i<r.length),W.cell? ⟨a,1+i,none⟩=some (.string ⟨(r[i]'h).toArray⟩)):Calls prog 176 #[.slice ao r.length cap, .slice (some ⟨W.heap.size,0,none⟩) fs.length fs.length] (W.alloc (.cells (fvs fs) 234)) fun e w'=>e= .returned (.bool (cd fs r))∧Only (fun b=>b=q) W w'∧(cd fs r=true->w'.heap[q]?=some (.cells (gI fs r cs) 149 (0,0))):=by
 have pN:q<W.heap.size:=(bZ.1 hq).1;have hb:Below W.heap.size W (W.alloc (.cells (fvs fs) 234)):=(ar _ _).alloc (af _) _;refine(DT q r fs ao (some ⟨W.heap.size,0,none⟩) a W.heap.size cap fs.length _ cs hf ((hb.block q pN).trans hq) hcs (fun h=> ?_) (fun _=>⟨rfl,by simp,by omega⟩) jZ ny jg (fun i h=> ?_) (fun i h=> ?_)).mono ?_
 ·obtain⟨h1,h2,h3⟩:=ck h;exact⟨h1,by simp;omega,h3⟩
 ·obtain⟨h1,h2,h3⟩:=ck (by omega);rw[hb.cell (p:=⟨a,1+i,none⟩) h2];exact kU i h
 ·simp only[World.cell?,heap_alloc_new];show(fvs fs)[i]?=_;unfold fvs;simp[h]
 ·rintro e w'⟨rfl,ho,hp⟩;exact⟨rfl,(ft hb).trans ho (fun _ _ h=>h),hp⟩
theorem xl(W:World)(r:List (List UInt8))(ao:Option Addr)(a cap:Nat)(cs:Array Value)(hq:W.heap[q]?=some (.cells cs 149 (0,0)))(hcs:cs.size=5)(ck:0<r.length->ao=some ⟨a,1,none⟩∧a<W.heap.size∧a≠q)(jZ: ∀x∈r,x.length<=4194304)(jg:r.length<=4194304)(kU: ∀i (h:i<r.length),W.cell? ⟨a,1+i,none⟩=some (.string ⟨(r[i]'h).toArray⟩)):Calls prog 176 #[.slice ao r.length cap, .slice none 0 0] W fun e w'=>e= .returned (.bool (cd [] r))∧Only (fun b=>b=q) W w'∧(cd [] r=true->w'.heap[q]?=some (.cells (gI [] r cs) 149 (0,0))):=
 DT q r [] ao none a 0 cap 0 W cs (fun f hf=>by cases hf) hq hcs ck (fun h=>absurd h (by simp)) jZ (by simp) jg kU (fun i h=>absurd h (by simp))
theorem cI{w w':World}(h:Below w.drew.heap.size w.drew w'):Below w.heap.size w w':=⟨h.os,h.tape,h.output,h.size,h.block⟩
def nX(q:Nat)(k:List UInt8)(r:List (List UInt8))(w:World)(e:Ending)(w':World):Prop:=e= .returned (.bool (bm (k::r)).2)∧Only (fun b=>b=q) w w'∧((bm (k::r)).2=true->w'.heap[q]?=some (.cells (bm (k::r)).1.cs 149 (0,0)))
theorem jB(q k:Nat)(w:World):Calls prog 175 #[.pointer (some ⟨q,k,none⟩)] w fun e w'=> ∃N,e= .returned (.func (.func 216) #[] #[.pointer (some ⟨N,0,none⟩)])∧w.heap.size<=N∧N<w'.heap.size∧Below w.heap.size w w'∧w'.cell? ⟨N,0,none⟩=some (.pointer (some ⟨q,k,none⟩)):=by refine(AJ q k w).mono ?_;rintro e w'⟨rfl,rfl⟩;exact⟨_,rfl,af _,by simp,(ar _ _).alloc (af _) _,by simp only[World.cell?,heap_alloc_new];rfl⟩
theorem PL(q k g:Nat)(w:World):Calls prog 177 #[.pointer (some ⟨q,k,none⟩), .func (.func g) #[] #[]] w fun e w'=> ∃B1 B2,e= .returned (.func (.func 219) #[] #[.pointer (some ⟨B1,0,none⟩), .pointer (some ⟨B2,0,none⟩)])∧w.heap.size<=B1∧B1<w'.heap.size∧w.heap.size<=B2∧B2<w'.heap.size∧Below w.heap.size w w'∧w'.cell? ⟨B1,0,none⟩=some (.pointer (some ⟨q,k,none⟩))∧w'.cell? ⟨B2,0,none⟩=some (.func (.func g) #[] #[]):=by
 refine(G8 q k g w).mono ?_;rintro e w'⟨rfl,rfl⟩;have bP:Below w.heap.size w (w.alloc (.cells #[.pointer (some ⟨q,k,none⟩)] 239)):=(ar _ _).alloc (af _) _;have jf:(w.alloc (.cells #[.pointer (some ⟨q,k,none⟩)] 239)).heap.size=w.heap.size+1:=by simp
 have cL:=(ar (w.heap.size+1) (w.alloc (.cells #[.pointer (some ⟨q,k,none⟩)] 239))).alloc (by omega) (.cells #[.func (.func g) #[] #[]] 116);refine⟨w.heap.size,w.heap.size+1,rfl,af _,by simp;omega,by omega,by simp,bP.alloc (by omega) _, ?_, ?_⟩
 ·rw[cL.cell (p:=⟨w.heap.size,0,none⟩) (by show w.heap.size<w.heap.size+1;omega)];simp only[World.cell?,heap_alloc_new];rfl
 ·rw[<-jf];simp only[World.cell?,heap_alloc_new];rfl
variable{base:Nat}{bL:World}
theorem Lm(L:ig base bL)(q:Nat)(k:List UInt8)(r:List (List UInt8))(ao:Option Addr)(a cap:Nat)(w:World)(hb:Below base bL w)(hB:base<=w.heap.size)(wj:base<=q)(fY:w.heap[q]?=some (.cells (cs0 k) 149 (0,0)))(ck:0<r.length->ao=some ⟨a,1,none⟩∧a<w.heap.size∧a≠q)(jZ: ∀x∈r,x.length<=4194304)(jg:r.length<=4194304)(kU: ∀i (h:i<r.length),w.cell? ⟨a,1+i,none⟩=some (.string ⟨(r[i]'h).toArray⟩))(h0:(k== [112,117,108,108])=false)(h1:(k== [98,101,97,116])=false)(h2:(k== [100,114,97,105,110])=false)(hv:(k== [99,97,110])=true):Calls prog 134 #[.pointer (some ⟨q,0,none⟩), .slice ao r.length cap] w (nX q k r w):=by
 have pN:q<w.heap.size:=(bZ.1 fY).1;have pK:Hid (∀k w1,_):=fun k w1=>jB q k w1;have HK:Hid (∀W,Below w.heap.size w W->W.cell? ⟨q,0,none⟩=some (.string ⟨k.toArray⟩)):=fun W h=>by rw[h.cell (p:=⟨q,0,none⟩) pN];simp only[World.cell?,fY];rfl
 have hk:k= [99,97,110]:=by simpa using hv
 have HF:Hid (∀W N1,Below w.heap.size w W->w.heap.size<=N1∧N1<W.heap.size->W.cell? ⟨N1,0,none⟩=some (.pointer (some ⟨q,1,none⟩))-> ∀nq,Calls prog 176 #[.slice ao r.length cap, .slice (some ⟨W.heap.size,0,none⟩) 1 1] ((W.drewN nq).alloc (.cells #[.func (.func 216) #[] #[.pointer (some ⟨N1,0,none⟩)]] 234)) fun e w'=>e= .returned (.bool (bm (k::r)).2)∧Hid (Only (fun b=>b=q) w w'∧((bm (k::r)).2=true->w'.heap[q]?=some (.cells (bm (k::r)).1.cs 149 (0,0))))):=fun W0 N1 h0 mP pL nq=>by
  obtain⟨W,eW⟩: ∃W,W0.drewN nq=W:=⟨_,rfl⟩;have es:W.heap.size=W0.heap.size:=by rw[<-eW];rfl
  have ec: ∀p,W.cell? p=W0.cell? p:=fun p=>by rw[<-eW];rfl
  have h:Below w.heap.size w W:=by rw[<-eW];exact⟨h0.os,h0.tape,h0.output,h0.size,h0.block⟩
  rw[eW,<-es];rw[<-es]at mP;rw[<-ec]at pL;have HW:=Hb N1 r;have oG:Below W.heap.size W (W.alloc (.cells #[.func (.func 216) #[] #[.pointer (some ⟨N1,0,none⟩)]] 234)):=(ar _ _).alloc (af _) _;have Jk:base<=W.heap.size:=au hB h.size;have Hj:Below base bL (W.alloc (.cells #[.func (.func 216) #[] #[.pointer (some ⟨N1,0,none⟩)]] 234)):=(hb.trans (h.mono hB)).alloc Jk _;have Hi:base<=(W.alloc (.cells #[.func (.func 216) #[] #[.pointer (some ⟨N1,0,none⟩)]] 234)).heap.size:=au Jk oG.size;have aQ: ∀n,n<W.heap.size->n<(W.alloc (.cells #[.func (.func 216) #[] #[.pointer (some ⟨N1,0,none⟩)]] 234)).heap.size:=fun n hn=>bE hn oG.size;refine(xk W r [cG N1 1] ao a cap (cs0 k) ((h.block q pN).trans fY) rfl (fun f hf=> ?_) (fun h0=> ?_) jZ jg (by simp) (fun i hi=> ?_)).mono ?_
  ·simp only[List.mem_cons,List.not_mem_nil,or_false]at hf;subst hf
   ·exact iH L Hj Hi wj (by omega) (aQ _ mP.2) (by omega) ((oG.cell (p:=⟨N1,0,none⟩) mP.2).trans pL)
  ·obtain⟨h1,h2,h3⟩:=ck h0;exact⟨h1,bE h2 h.size,h3⟩
  ·rw[h.cell (p:=⟨a,1+i,none⟩) (ck (by omega)).2.1];exact kU i hi
  ·rintro e w'⟨rfl,ho,hp⟩;rw[hk]at hp⊢;exact⟨by rw[HW.1],(ft h).trans ho (fun _ _ h=>h),fun h=>by rw[HW.1]at h;rw[<-HW.2 h];exact hp h⟩
 clear fY ck jZ kU L hk hb;generalize jH:r.length=rl at*;clear jH;have M1:True:=trivial;go_enter func134,ntmps134;go_wp2_with fail;go_region_held3 (fun _=>True) (trivial)
  (first
   |(go_at_call 175;first
     |(clear M1;go_must(refine(pK.out _ _).mono ?_;rintro e w1⟨N1,rfl,BF,wD,bP,pL⟩))
     |(go_must(refine(pK.out _ _).mono ?_;rintro e w2⟨N2,rfl,BG,BH,cL,uS⟩))))
 all_goals
  have fe:=cI bP;have jh:Below w1.heap.size w1 w2:=by first|exact cL|exact cI cL
  have HB:Below w.heap.size w w2:=fe.trans (jh.mono fe.size);have c0:=HK.out w2 HB;have mP:w.heap.size<=N1∧N1<w2.heap.size:=⟨BF,bE wD jh.size⟩;have sQ:w2.cell? ⟨N1,0,none⟩=some (.pointer (some ⟨q,1,none⟩)):=by rw[jh.cell (p:=⟨N1,0,none⟩) wD];exact pL
  have xG:w.heap.size<=N2∧N2<w2.heap.size:=⟨au fe.size BG,BH⟩;have uO:Hid (Calls _ _ _ _ _):=HF.out w2 _ HB mP sQ 0;clear HF pK HK bP cL fe jh pL sQ uS HB BF wD BG BH mP xG;go_wp2_with (first
   |(go_at_call 176;go_must(refine uO.out.mono ?_;rintro e w3⟨rfl,HP⟩)))
  go_ret;exact⟨rfl,HP.out⟩
theorem GR(L:ig base bL)(q:Nat)(k:List UInt8)(r:List (List UInt8))(ao:Option Addr)(a cap:Nat)(w:World)(hb:Below base bL w)(hB:base<=w.heap.size)(wj:base<=q)(fY:w.heap[q]?=some (.cells (cs0 k) 149 (0,0)))(ck:0<r.length->ao=some ⟨a,1,none⟩∧a<w.heap.size∧a≠q)(jZ: ∀x∈r,x.length<=4194304)(jg:r.length<=4194304)(kU: ∀i (h:i<r.length),w.cell? ⟨a,1+i,none⟩=some (.string ⟨(r[i]'h).toArray⟩))(h0:(k== [112,117,108,108])=false)(h1:(k== [98,101,97,116])=false)(h2:(k== [100,114,97,105,110])=false)(h3:(k== [99,97,110])=false)(hv:(k== [102,97,105,108])=true):Calls prog 134 #[.pointer (some ⟨q,0,none⟩), .slice ao r.length cap] w (nX q k r w):=by
 have pN:q<w.heap.size:=(bZ.1 fY).1;have pK:Hid (∀k w1,_):=fun k w1=>jB q k w1;have HK:Hid (∀W,Below w.heap.size w W->W.cell? ⟨q,0,none⟩=some (.string ⟨k.toArray⟩)):=fun W h=>by rw[h.cell (p:=⟨q,0,none⟩) pN];simp only[World.cell?,fY];rfl
 have hk:k= [102,97,105,108]:=by simpa using hv
 have HF:Hid (∀W N1 N2,Below w.heap.size w W->w.heap.size<=N1∧N1<W.heap.size->w.heap.size<=N2∧N2<W.heap.size->W.cell? ⟨N1,0,none⟩=some (.pointer (some ⟨q,1,none⟩))->W.cell? ⟨N2,0,none⟩=some (.pointer (some ⟨q,2,none⟩))-> ∀nq,Calls prog 176 #[.slice ao r.length cap, .slice (some ⟨W.heap.size,0,none⟩) 2 2] ((W.drewN nq).alloc (.cells #[.func (.func 216) #[] #[.pointer (some ⟨N1,0,none⟩)], .func (.func 216) #[] #[.pointer (some ⟨N2,0,none⟩)]] 234)) fun e w'=>e= .returned (.bool (bm (k::r)).2)∧Hid (Only (fun b=>b=q) w w'∧((bm (k::r)).2=true->w'.heap[q]?=some (.cells (bm (k::r)).1.cs 149 (0,0))))):=fun W0 N1 N2 h0 mP xG pL uS nq=>by
  obtain⟨W,eW⟩: ∃W,W0.drewN nq=W:=⟨_,rfl⟩;have es:W.heap.size=W0.heap.size:=by rw[<-eW];rfl
  have ec: ∀p,W.cell? p=W0.cell? p:=fun p=>by rw[<-eW];rfl
  have h:Below w.heap.size w W:=by rw[<-eW];exact⟨h0.os,h0.tape,h0.output,h0.size,h0.block⟩
  rw[eW,<-es];rw[<-es]at mP xG;rw[<-ec]at pL uS;have HW:=Dm N1 N2 r;have oG:Below W.heap.size W (W.alloc (.cells #[.func (.func 216) #[] #[.pointer (some ⟨N1,0,none⟩)], .func (.func 216) #[] #[.pointer (some ⟨N2,0,none⟩)]] 234)):=(ar _ _).alloc (af _) _;have Jk:base<=W.heap.size:=au hB h.size;have Hj:Below base bL (W.alloc (.cells #[.func (.func 216) #[] #[.pointer (some ⟨N1,0,none⟩)], .func (.func 216) #[] #[.pointer (some ⟨N2,0,none⟩)]] 234)):=(hb.trans (h.mono hB)).alloc Jk _;have Hi:base<=(W.alloc (.cells #[.func (.func 216) #[] #[.pointer (some ⟨N1,0,none⟩)], .func (.func 216) #[] #[.pointer (some ⟨N2,0,none⟩)]] 234)).heap.size:=au Jk oG.size;have aQ: ∀n,n<W.heap.size->n<(W.alloc (.cells #[.func (.func 216) #[] #[.pointer (some ⟨N1,0,none⟩)], .func (.func 216) #[] #[.pointer (some ⟨N2,0,none⟩)]] 234)).heap.size:=fun n hn=>bE hn oG.size;refine(xk W r [cG N1 1,cG N2 2] ao a cap (cs0 k) ((h.block q pN).trans fY) rfl (fun f hf=> ?_) (fun h0=> ?_) jZ jg (by simp) (fun i hi=> ?_)).mono ?_
  ·simp only[List.mem_cons,List.not_mem_nil,or_false]at hf;rcases hf with rfl|rfl
   ·exact iH L Hj Hi wj (by omega) (aQ _ mP.2) (by omega) ((oG.cell (p:=⟨N1,0,none⟩) mP.2).trans pL)
   ·exact iH L Hj Hi wj (by omega) (aQ _ xG.2) (by omega) ((oG.cell (p:=⟨N2,0,none⟩) xG.2).trans uS)
  ·obtain⟨h1,h2,h3⟩:=ck h0;exact⟨h1,bE h2 h.size,h3⟩
  ·rw[h.cell (p:=⟨a,1+i,none⟩) (ck (by omega)).2.1];exact kU i hi
  ·rintro e w'⟨rfl,ho,hp⟩;rw[hk]at hp⊢;exact⟨by rw[HW.1],(ft h).trans ho (fun _ _ h=>h),fun h=>by rw[HW.1]at h;rw[<-HW.2 h];exact hp h⟩
 clear fY ck jZ kU L hk hb;generalize jH:r.length=rl at*;clear jH;have M1:True:=trivial;go_enter func134,ntmps134;go_wp2_with fail;go_region_held3 (fun _=>True) (trivial)
  (first
   |(go_at_call 175;first
     |(clear M1;go_must(refine(pK.out _ _).mono ?_;rintro e w1⟨N1,rfl,BF,wD,bP,pL⟩))
     |(go_must(refine(pK.out _ _).mono ?_;rintro e w2⟨N2,rfl,BG,BH,cL,uS⟩))))
 all_goals
  have fe:=cI bP;have jh:Below w1.heap.size w1 w2:=by first|exact cL|exact cI cL
  have HB:Below w.heap.size w w2:=fe.trans (jh.mono fe.size);have c0:=HK.out w2 HB;have mP:w.heap.size<=N1∧N1<w2.heap.size:=⟨BF,bE wD jh.size⟩;have sQ:w2.cell? ⟨N1,0,none⟩=some (.pointer (some ⟨q,1,none⟩)):=by rw[jh.cell (p:=⟨N1,0,none⟩) wD];exact pL
  have xG:w.heap.size<=N2∧N2<w2.heap.size:=⟨au fe.size BG,BH⟩;have uO:Hid (Calls _ _ _ _ _):=HF.out w2 _ _ HB mP xG sQ uS 0;clear HF pK HK bP cL fe jh pL sQ uS HB BF wD BG BH mP xG;go_wp2_with (first
   |(go_at_call 176;go_must(refine uO.out.mono ?_;rintro e w3⟨rfl,HP⟩)))
  go_ret;exact⟨rfl,HP.out⟩
end bA
namespace Mr
open Go.RowKit aD Mc
attribute [local go_sem] aP.ae aP.ah
variable{wr:World}
theorem nc{cur w4:World}(h:Below wr.heap.size wr cur)(kQ:Below cur.heap.size cur w4):Below wr.heap.size wr w4:=h.trans (kQ.mono h.size)
structure sH(p:Nat)(s:St)(id:Int)(w:World)(F:Ft)(s':St)(wr:World):Prop where
 st:St.dw s s' id
 sz:s'.sz<=s.sz
 goes:Goes (FT p s') w F wr
 rest: ∃f,s'.ag.length<=f∧St.stops s.ag.length s id=St.stops f s' id
theorem sH.next{p:Nat}{s s':St}{id:Int}{w:World}{F:Ft}{w2:World}(h:sH p s id w F s' wr){i:Nat}{a:At}(hi:s'.ag.findIdx? (·.id==id)=some i)(ha:s'.ag[i]?=some a)(hg:Goes (FT p ((s'.say a.conn (St.aM id a.n)).aU i)) w F w2):sH p s id w F ((s'.say a.conn (St.aM id a.n)).aU i) w2:=by
 obtain⟨f,hf,e⟩:=h.rest;have hlen:=St.iz ha;have h2:=St.ku (s:=s'.say a.conn (St.aM id a.n)) ha;rw[St.eA]at h2;refine⟨h.st.trans (St.Bf s' id _ _ _),by have:=h.sz;omega,hg, ?_⟩
 match f,hf,e with
 |0,hf,_=>omega
 |f+1,hf,e=>
  refine⟨f, ?_, ?_⟩
  ·rw[(St.dC (s:=s'.say a.conn (St.aM id a.n)) i).2.1];show(s'.ag.eraseIdx i).length<=f;omega
  ·rw[e];conv=>lhs;unfold St.stops
   rw[hi];dsimp only;rw[ha]
