import Derived.Test.YtffamlbkmjmipaaGreatDoorC11
import Derived.Test.YtffamlbkmjmipaaGreatDoorC15
import Derived.Test.YtffamlbkmjmipaaGreatDoorC28
import Derived.Lib.AppendStr
import Derived.Lib.SmallJoins
import Derived.Lib.Atoi
set_option maxHeartbeats 8000000
set_option maxRecDepth 100000
namespace Go.Proofs.YtffamlbkmjmipaaGreatDoor
open _root_.Go.Proofs.Tryz
namespace fA
open Go.RowKit bJ Go.Lib
variable{P:Program}
def pO(l:List UInt8):List Value:=l.map fun b=> .int .u8 (b.toNat:Int)
theorem zT(a b:List UInt8):pO (a++b)=pO a++pO b:=by simp[pO]
theorem qw(w:World)(base:Nat)(t u ty e:TypeId)(i:TypeInfo)(ht:P.underlying t=some (.slice e))(hu:P.underlying u=some .string)(hi:P.info? e=some i)(hz:i.zero=some (.int .u8 0))(mG:i.size=1)(rE:i.bytes=1)(v:Value)(n:Nat)(xs:List Value)(a8:w.ownsRow base e 1 v n xs)(s:ByteArray)(Ko:n+s.size<=maxLen)(kr:n+s.size<=140737488355328)(Pv:base<=w.heap.size): ∃v' w',(Builtin.append_ #[t,u] ty #[v, .string s]).run P w= .ok v' w'∧w'.ownsRow base e 1 v' (n+s.size) (xs++strCells s)∧w.grownBy w' v.ownBlock∧(v'.ownBlock=v.ownBlock∨v'.ownBlock=some w.heap.size):=by
 obtain⟨v',w',hr,ho,hg,_⟩:=run_append_own_string (P:=P) w base t u ty e i ht hu hi hz mG rE v n xs a8 s Ko kr Pv;refine⟨v',w',hr,ho,hg, ?_⟩;have IC:xs.length=n:=by simpa using a8.1
 rcases a8.2 with⟨rfl,rfl⟩|⟨g,cap,cur,rfl,hbg,hgh,hnc,Aa,hcs,Wc⟩
 ·by_cases hm:s.size=0
  ·have xB:(Builtin.append_ #[t,u] ty #[.slice none 0 0, .string s]).run P w= .ok (.slice none 0 0) w:=by
    have hf:=run_firstCells_string (P:=P) w 1 s;rw[hm]at hf;simp[Builtin.append_,run_underlying ht,run_underlying hu,sizeOf,typeInfo,hi,mG,Builtin.lenOf,hm,hf]
   rw[xB]at hr;cases hr;exact Or.inl rfl
  ·have jn:s.size<=9223372036854775807:=by simp only[maxLen]at Ko;omega
   have xB:=run_append_nil_string (P:=P) w t u ty e i (.int .u8 0) ht hu hi hz s (by omega) (by omega) (by rw[rE];omega);rw[xB]at hr;cases hr;exact Or.inr rfl
 ·by_cases vV:n+s.size<=cap
  ·have L3:cur.size=cap:=by simpa using hcs
   have xB:=run_append_room_string (P:=P) w t u ty e i ht hu hi mG g n cap cur hgh s vV (by omega);rw[xB]at hr;cases hr;exact Or.inl rfl
  ·have holds: ∀j u,xs[j]?=some u->w.cell? ((⟨g,0,none⟩:Addr).add j)=some u:=a8.cells (g:=g) rfl;have jn:n+s.size<=9223372036854775807:=by simp only[maxLen]at Ko;omega
   have xB:=run_append_grow_string (P:=P) w t u ty e i (.int .u8 0) ht hu hi hz ⟨g,0,none⟩ n cap xs (by rw[mG];simpa using IC) holds s (by omega) (by omega) (by rw[rE];exact growslice_fits (by omega) (by omega));rw[xB]at hr;cases hr;exact Or.inr rfl
theorem sX{ops:Array Oper}{o:Oper}{a:Act}{w:World}{K:Act->World->Prop}{Q:Exit->Act->World->Prop}{E:Prop}(XG:o.guard=none)(sl x:Operand)(t u:TypeId)(ho:o.op= .call {callee:= .builtin .append,args:= #[sl,x],argTypes:= #[t,u]})(base:Nat)(e:TypeId)(i:TypeInfo)(ht:P.underlying t=some (.slice e))(hu:P.underlying u=some .string)(hi:P.info? e=some i)(hz:i.zero=some (.int .u8 0))(mG:i.size=1)(rE:i.bytes=1)(v:Value)(n:Nat)(xs:List Value)(hs:a.eval sl=v)(a8:w.ownsRow base e 1 v n xs)(s:ByteArray)(hx:a.eval x= .string s)(Ko:n+s.size<=maxLen)(kr:n+s.size<=140737488355328)(Pv:base<=w.heap.size)(h: ∀v' w',w'.ownsRow base e 1 v' (n+s.size) (xs++strCells s)->w.grownBy w' v.ownBlock->(v'.ownBlock=v.ownBlock∨v'.ownBlock=some w.heap.size)->K (a.put o.dst v') w'):if Region.wanted o (yielded ops a.tmps)=true then Oper.wp P o a w K Q else E:=by
 have hw:Region.wanted o (yielded ops a.tmps)=true:=by simp[Region.wanted,XG]
 rw[if_pos hw];obtain⟨v',w',hr,h2,h3,h4⟩:=qw (P:=P) w base t u o.type e i ht hu hi hz mG rE v n xs a8 s Ko kr Pv;unfold Oper.wp execOp;simp only[ho,resolve,invoke,builtin,Sem.run_bind,Sem.run_pure,Result.andThen_ok,List.map_toArray,List.map_cons,List.map_nil,hs,hx,hr];exact h v' w' h2 h3 h4
theorem infoByte:(prog.info? 5).map (fun i=>(i.zero,i.size,i.bytes))=some (some (.int .u8 0),1,1):=by kernel_rfl
theorem Ot(r:List UInt8)(s:ByteArray){k:Nat}(hr:r.length<=81)(hk:min (81-r.length) s.size=k):r++(s.extract 0 k).data.toList=(r++s.data.toList).take 81:=by
 rw[nz];show r++s.data.toList.take k=_;rw[List.take_append,List.take_of_length_le hr];congr 1;have e:s.data.toList.length=s.size:=by simp
 by_cases h:81-r.length<=s.size
 ·rw[<-hk,Nat.min_eq_left h]
 ·rw[<-hk,Nat.min_eq_right (by omega),List.take_of_length_le (by omega),List.take_of_length_le (by omega)]
theorem M7{w:World}{base:Nat}{e:TypeId}{ao:Option Addr}{n cap:Nat}{xs:List Value}(h:w.ownsRow base e 1 (.slice ao n cap) n xs):w.ownsRow base e 1 (.slice ao 0 cap) 0 []:=by
 refine⟨rfl, ?_⟩;rcases h.2 with⟨h1,h0⟩|⟨g,cM,cur,h1,hb,hg,hn,hm,hs,ht⟩
 ·cases h1;exact Or.inl ⟨rfl,rfl⟩
 ·cases h1;exact Or.inr ⟨g,_,cur,rfl,hb,hg,aJ _,hm,hs,by simp⟩
end fA
namespace bJ
open Go.RowKit
variable{base:Nat}{dz:World}{l:List UInt8}
structure Says(base:Nat)(dz:World)(g:Nat)(p:List UInt8->Bool):Prop where
 enter: ∀args w,(callFunc g args).run prog w= .ok (.enter g args) w
 says: ∀(s:ByteArray) (w:World),s.size<=4194304->Below base dz w->Calls prog g #[.string s] w fun e w'=>e= .returned (.bool (p s.data.toList))∧Below w.heap.size w w'
theorem Et(L:kE base dz):Says base dz 178 ux:=by refine⟨enters_of func178 (by kernel_rfl) rfl,fun s w hs hb=> ?_⟩;have HC:Calls _ _ _ _ fun e w'=>e= .returned (.bool (ux s.data.toList))∧Below w.heap.size w w':=pT L _ iZ qg s 6 w hs hb;generalize ux s.data.toList=b at*;go_enter func178,ntmps178;go_wp2_with fail;refine HC.mono ?_;rintro e w1⟨rfl,hb1⟩;go_wp2;go_ret;exact⟨rfl,hb1⟩
theorem tT(L:kE base dz):Says base dz 179 m6:=by refine⟨enters_of func179 (by kernel_rfl) rfl,fun s w hs hb=> ?_⟩;have HC:Calls _ _ _ _ fun e w'=>e= .returned (.bool (m6 s.data.toList))∧Below w.heap.size w w':=pT L _ ja sJ s 12 w hs hb;generalize m6 s.data.toList=b at*;go_enter func179,ntmps179;go_wp2_with fail;refine HC.mono ?_;rintro e w1⟨rfl,hb1⟩;go_wp2;go_ret;exact⟨rfl,hb1⟩
theorem Qk(h: ∀i,i<l.length->byteAt l i<128): ∀(f i:Nat),l.length<=i+f->gT l f i=some ((l.drop i).map fun c=>(c.toNat:Int)):=by
 intro f
 induction f with
 |zero=>intro i hi;unfold gT;rw[qT _ _ (by omega),List.drop_eq_nil_of_le (by omega)];rfl
 |succ f ih=>
  intro i hi;by_cases hl:i<l.length
  ·have h1:=Be l i (h i hl);have Mt:=ih (i+1) (by omega);have rE:byteAt l i=(l[i].toNat:Int):=by
    unfold byteAt;rw[a7 hl];rfl
   unfold gT at Mt⊢;rw[oN _ _ _ _ hl h1,Mt,rE,<-List.getElem_cons_drop (h:=hl),List.map_cons];rfl
  ·unfold gT;rw[qT _ _ hl,List.drop_eq_nil_of_le (by omega)];rfl
theorem E6(h:(cF l).2=true):iG kz 6 l=true:=by
 unfold cF at h;split at h
 ·rename_i hc;simp only[bZ,decide_eq_true_eq]at hc;obtain⟨⟨⟨h1,h2⟩,_⟩,h4⟩:=hc;unfold nA at h4;rw[List.all_eq_true]at h4;have hb: ∀i,i<l.length->byteAt l i<128:=fun i hi=>by
   have:=h4 l[i] (aY hi);unfold nH at this;simp only[bZ,decide_eq_true_eq]at this;unfold byteAt;rw[a7 hi];show((l[i]).toNat:Int)<128;omega
  have hl:lets l=some (l.map fun c=>(c.toNat:Int)):=Qk hb l.length 0 (by omega);rw[l7 hl,List.all_map];have:l.all ((fun c=>kz c)∘fun c:UInt8=>(c.toNat:Int))=true:=by rw[List.all_eq_true];intro c hc;exact h4 c hc
  simp only[bf,bZ,decide_eq_true_eq];exact⟨⟨this,h1⟩,h2⟩
 ·cases h
theorem Es(L:kE base dz):Says base dz 217 (fun l=>(cF l).2):=by
 refine⟨enters_of func217 (by kernel_rfl) rfl,fun s w hs hb=> ?_⟩;have HC:=pT L _ kz Aq s 6 w hs hb;cases hw:iG kz 6 s.data.toList
 ·have HN:Hid ((cF s.data.toList).2=false):=by
   show _=_;cases hn:(cF s.data.toList).2 with
   |false=>rfl
   |true=>rw[E6 hn]at hw;cases hw
  rw[hw]at HC;go_enter func217,ntmps217;go_wp2_with fail;refine HC.mono ?_;rintro e w1⟨rfl,hb1⟩;go_wp2;go_ret;exact⟨cO HN.out.symm,hb1⟩
 ·rw[hw]at HC;have hp:0<s.size:=by have:=uE hw;omega
  have H1:Hid (s.toList= [48]->(cF s.data.toList).2=true):=fun e=>QG hw (fun h'=>by rw[ByteArray.toList_eq]at e;have:=congrArg List.length e;rw[slen]at this;have:=h'.1;simp at*;omega)
  have H2:Hid ((s[0].toNat:Int)≠48->(cF s.data.toList).2=true):=fun e=>QG hw (fun h'=>e h'.2);have H3:Hid ((s[0].toNat:Int)=48->s.toList≠ [48]->(cF s.data.toList).2=false):=fun e h'=>by
   have h1:1<s.size:=by
    apply Classical.byContradiction;intro hn;have cg:s.size=1:=by omega
    apply h';rw[ByteArray.toList_eq];have hl:s.data.toList.length=1:=by rw[slen];exact cg
    have e0:s.data.toList[0]'(by omega)=48:=by apply UInt8.toNat.inj;show(s[0]).toNat=48;omega
    match hd:s.data.toList,hl with
    | [a],_=>simp only[hd,List.getElem_cons_zero]at e0;rw[e0]
   rw[wj s h1 (by simpa using e)]
  clear hw;go_enter func217,ntmps217;go_wp2_with fail;refine HC.mono ?_;rintro e w1⟨rfl,hb1⟩;clear HC;go_wp2
  ·rename_i he;go_ret;exact⟨cO (H1.out he).symm,hb1⟩
  ·rename_i he;go_ret;refine⟨cO ?_,hb1⟩;by_cases h48:(s[0].toNat:Int)=48
   ·rw[H3.out h48 he];simp[he,h48]
   ·rw[H2.out h48];simp[h48]
theorem Ka: ∀(l:List UInt8) (acc:Nat),nA l=true-> ∃m:Nat,Lib.decFrom acc l=some m∧(m:Int)=l.foldl (fun n c=>10*n+((c.toNat:Int)-48)) (acc:Int)
 | [],acc,_=>⟨acc,rfl,rfl⟩
 |c::l,acc,h=>by
  unfold nA at h;rw[List.all_cons,bZ]at h;have hc:=h.1;unfold nH at hc;simp only[bZ,decide_eq_true_eq]at hc;obtain⟨m,h1,h2⟩:=Ka l (acc*10+(c.toNat-48)) h.2;refine⟨m, ?_, ?_⟩
  ·unfold Lib.decFrom;have:Lib.digitVal c=some (c.toNat-48):=by unfold Lib.digitVal;rw[if_pos (by omega)]
   rw[this];exact h1
  ·rw[h2,List.foldl_cons];congr 1;omega
theorem Oz{l:List UInt8}(h:(cF l).2=true):Lib.atoi l=some (cF l).1:=by
 unfold cF at h⊢;split at h
 ·rename_i hc;rw[if_pos hc];simp only[bZ,decide_eq_true_eq]at hc;obtain⟨⟨⟨h1,_⟩,_⟩,h4⟩:=hc
  match l,h1,h4 with
  |c::r,_,h4=>
   obtain⟨m,e1,e2⟩:=Ka (c::r) 0 h4;have hd:=h4;unfold nA at hd;rw[List.all_cons,bZ]at hd;have hc:=hd.1;unfold nH at hc;simp only[bZ,decide_eq_true_eq]at hc;have n1:(c==45)=false:=by
    cases e:c==45 with
    |false=>rfl
    |true=>rw[beq_iff_eq]at e;rw[e]at hc;simp at hc
   have n2:(c==43)=false:=by
    cases e:c==43 with
    |false=>rfl
    |true=>rw[beq_iff_eq]at e;rw[e]at hc;simp at hc
   unfold Lib.atoi;dsimp only;rw[if_neg (by simp[n1]),if_neg (by simp[n2])];unfold Lib.decNat;rw[if_neg (by simp),e1];show some (m:Int)=_;rw[e2];rfl
 ·cases h
structure JT where
 g:Nat
 lb:Array Value
 k:Nat
 p:List UInt8->Bool
 val:List UInt8->Value
structure JT.ok(q:Nat)(f:JT)(w:World):Prop where
 enter: ∀args w,(callFunc f.g args).run prog w= .ok (.enter f.g args) w
 says: ∀(s:ByteArray) (wr:World) (cs:Array Value),s.size<=4194304->Only (fun b=>b=q) w wr->wr.heap[q]?=some (.cells cs 149 (0,0))->cs.size=5->
  Calls prog f.g (#[.string s]++f.lb) wr fun e w'=>e= .returned (.bool (f.p s.data.toList))∧Only (fun b=>b=q) wr w'∧(f.p s.data.toList=true->w'.heap[q]?=some (.cells (cs.setIfInBounds f.k (f.val s.data.toList)) 149 (0,0)))
def dw:List JT->List (List UInt8)->Bool
 | [], []=>true
 |f::fs,x::ws=>f.p x &&dw fs ws
 |_,_=>false
def jO:List JT->List (List UInt8)->Array Value->Array Value
 |f::fs,x::ws,cs=>jO fs ws (cs.setIfInBounds f.k (f.val x))
 |_,_,cs=>cs
theorem H6(f:JT)(fs:List JT)(x:List UInt8)(ws:List (List UInt8)):dw (f::fs) (x::ws)=(f.p x &&dw fs ws):=rfl
theorem MR(f:JT)(fs:List JT)(x:List UInt8)(ws:List (List UInt8))(cs:Array Value):jO (f::fs) (x::ws) cs=jO fs ws (cs.setIfInBounds f.k (f.val x)):=rfl
theorem ic{q:Nat}{w w':World}(h:Below w.heap.size w w'):Only (fun b=>b=q) w w':=⟨h.os,h.tape,h.output,h.size,fun k hk _=>h.block k hk⟩
theorem AY: ∀{fs:List JT} {ws:List (List UInt8)},ws.length≠fs.length->dw fs ws=false
 | [], [],h=>absurd rfl h
 | [],_::_,_=>rfl
 |_::_, [],_=>rfl
 |f::fs,x::ws,h=>by unfold dw;rw[AY (fs:=fs) (ws:=ws) (fun e=>h (by simp[e])),Bool.and_false]
theorem Kk(q:Nat)(ws:List (List UInt8))(fs:List JT)(ao bo:Option Addr)(a b cap js:Nat)(w:World)(cs:Array Value)(hf: ∀f∈fs,f.ok q w)(hq:w.heap[q]?=some (.cells cs 149 (0,0)))(hcs:cs.size=5)(bI:0<ws.length->ao=some ⟨a,1,none⟩∧a<w.heap.size∧a≠q)(GL:0<fs.length->bo=some ⟨b,0,none⟩∧b<w.heap.size∧b≠q)(mi: ∀x∈ws,x.length<=4194304)(nC:fs.length<=3)(gS:ws.length<=4194304)(pJ: ∀i (h:i<ws.length),w.cell? ⟨a,1+i,none⟩=some (.string ⟨(ws[i]'h).toArray⟩))(hck: ∀i (h:i<fs.length),w.cell? ⟨b,i,none⟩=some (.func (.func (fs[i]'h).g) #[] (fs[i]'h).lb)):Calls prog 176 #[.slice ao ws.length cap, .slice bo fs.length js] w fun e w'=>e= .returned (.bool (dw fs ws))∧Only (fun b=>b=q) w w'∧(dw fs ws=true->w'.heap[q]?=some (.cells (jO fs ws cs) 149 (0,0))):=by
 by_cases hl:ws.length=fs.length
 ·obtain⟨n,hn⟩: ∃n,fs.length=n:=⟨_,rfl⟩;have Sj:ws.length=n:=hl.trans hn;rw[Sj,hn];rw[hn]at nC GL;rw[Sj]at bI;have HW:Hid (∀f∈fs,f.ok q w):=hf;have HS:Hid (∀x∈ws,x.length<=4194304):=mi;have HCW:Hid (∀i (h:i<ws.length),w.cell? ⟨a,1+i,none⟩=some (.string ⟨(ws[i]'h).toArray⟩)):=pJ;have HCK:Hid (∀i (h:i<fs.length),w.cell? ⟨b,i,none⟩=some (.func (.func (fs[i]'h).g) #[] (fs[i]'h).lb)):=hck;have ZU:Hid (ws.length=n):=Sj;have zC:Hid (fs.length=n):=hn;have HQ:Hid (Only (fun b=>b=q) w w∧ ∃cs',w.heap[q]?=some (.cells cs' 149 (0,0))∧cs'.size=5∧dw fs ws=dw (fs.drop 0) (ws.drop 0)∧jO fs ws cs=jO (fs.drop 0) (ws.drop 0) cs'):=⟨Only.refl _ _,cs,hq,hcs,by simp,by simp⟩;clear hf mi pJ hck hl hn Sj hq hcs;go_enter func176,ntmps176;go_wp2;go_loopw [14] (fun i wr=> ∃k:Nat,k<=n∧i= .int .i64 k∧Hid (Only (fun b=>b=q) w wr∧ ∃cs',wr.heap[q]?=some (.cells cs' 149 (0,0))∧cs'.size=5∧dw fs ws=dw (fs.drop k) (ws.drop k)∧jO fs ws cs=jO (fs.drop k) (ws.drop k) cs')) (fun i _=>n-(intOf i).toNat)
  case atStart=>exact⟨0,aJ _,rfl,HQ⟩
  case round=>
   obtain⟨k,hk,rfl,HD⟩:=hrel;by_cases ay:k<n
   ·obtain⟨rfl,Xs,haq⟩:=bI (by omega);obtain⟨rfl,px,hbq⟩:=GL (by omega);have Ee:k<ws.length:=by rw[ZU.out];exact ay
    have oc:k<fs.length:=by rw[zC.out];exact ay
    obtain⟨ho,cs',wT,L3,e1,e2⟩:=HD.out;have c1:wr.cell? ⟨a,1+k,none⟩=some (.string ⟨(ws[k]'Ee).toArray⟩):=by have:=HCW.out k Ee;simp only[World.cell?,ho.block a Xs haq]at this⊢;exact this
    have c2:wr.cell? ⟨b,k,none⟩=some (.func (.func (fs[k]'oc).g) #[] (fs[k]'oc).lb):=by have:=HCK.out k oc;simp only[World.cell?,ho.block b px hbq]at this⊢;exact this
    have Ea:=HW.out _ (aY oc);have eg:=Ea.enter;have d1:fs.drop k=fs[k]::fs.drop (k+1):=(List.getElem_cons_drop (h:=oc)).symm;have d2:ws.drop k=ws[k]::ws.drop (k+1):=(List.getElem_cons_drop (h:=Ee)).symm;rw[d1,d2]at e1 e2;rw[H6]at e1;rw[MR]at e2;have HSY:Hid (Calls prog (fs[k]'oc).g (#[.string ⟨(ws[k]'Ee).toArray⟩]++(fs[k]'oc).lb) wr fun e w'=>e= .returned (.bool ((fs[k]'oc).p (ws[k]'Ee)))∧Only (fun b=>b=q) wr w'∧((fs[k]'oc).p (ws[k]'Ee)=true->w'.heap[q]?=some (.cells (cs'.setIfInBounds (fs[k]'oc).k ((fs[k]'oc).val (ws[k]'Ee))) 149 (0,0)))):=
     Ea.says ⟨(ws[k]'Ee).toArray⟩ wr cs' (by simpa[ByteArray.size]using HS.out _ (aY Ee)) ho wT L3
    cases hp:(fs[k]'oc).p (ws[k]'Ee)
    ·have jr:Hid (dw fs ws=false∧Only (fun b=>b=q) w wr):=⟨by rw[e1,hp];rfl,ho⟩;rw[hp]at HSY;clear HCW HCK HW HS HD bI GL ZU zC ho wT L3 e1 e2 d1 d2 Ea HQ hp;generalize(fs[k]'oc).g=g at*;generalize(fs[k]'oc).lb=lb at*;generalize(⟨(ws[k]'Ee).toArray⟩:ByteArray)=t at*;go_wp2_with (go_at_fn g;go_must(refine HSY.out.mono ?_;rintro e w1⟨rfl,ho1,_⟩));go_ret;exact⟨cO jr.out.1.symm,jr.out.2.trans ho1 (fun _ _ h=>h),fun h=>by rw[jr.out.1]at h;cases h⟩
    ·have HYE:Hid (∀w1,Only (fun b=>b=q) wr w1->w1.heap[q]?=some (.cells (cs'.setIfInBounds (fs[k]'oc).k ((fs[k]'oc).val (ws[k]'Ee))) 149 (0,0))->Hid (Only (fun b=>b=q) w w1∧ ∃cs',w1.heap[q]?=some (.cells cs' 149 (0,0))∧cs'.size=5∧dw fs ws=dw (fs.drop (k+1)) (ws.drop (k+1))∧jO fs ws cs=jO (fs.drop (k+1)) (ws.drop (k+1)) cs')):=fun w1 h1 h2=>⟨ho.trans h1 (fun _ _ h=>h),_,h2,by simpa using L3,by rw[e1,hp,Bool.true_and],e2⟩;rw[hp]at HSY;clear HCW HCK HW HS HD bI GL ZU zC ho wT L3 e1 e2 d1 d2 Ea HQ hp;generalize(cs'.setIfInBounds (fs[k]'oc).k ((fs[k]'oc).val (ws[k]'Ee)))=cs2 at*;generalize(fs[k]'oc).g=g at*;generalize(fs[k]'oc).lb=lb at*;generalize(⟨(ws[k]'Ee).toArray⟩:ByteArray)=t at*;go_wp2_with (go_at_fn g;go_must(refine HSY.out.mono ?_;rintro e w1⟨rfl,ho1,ng⟩;have HI:=HYE.out w1 ho1 (ng rfl);clear ho1 ng));go_roundw
     case rel=>exact⟨k+1,by omega,by go_num,HI⟩
     case measure=>simp[intOf];omega
   ·obtain rfl:k=n:=by omega
    have HF:Hid (dw fs ws=true∧Only (fun b=>b=q) w wr∧wr.heap[q]?=some (.cells (jO fs ws cs) 149 (0,0))):=by obtain⟨ho,cs',wT,L3,e1,e2⟩:=HD.out;have d1:fs.drop k= []:=List.drop_eq_nil_of_le (by rw[zC.out];exact ae _);have d2:ws.drop k= []:=List.drop_eq_nil_of_le (by rw[ZU.out];exact ae _);rw[d1,d2]at e1 e2;exact⟨e1,ho,by rw[e2];exact wT⟩
    clear HCW HCK HW HS HD bI GL ZU zC HQ;go_wp2;go_ret;exact⟨cO HF.out.1.symm,HF.out.2.1,fun _=>HF.out.2.2⟩
 ·have cC:((ws.length:Int) !=fs.length)=true:=by rw[bne_iff_ne];omega
  have jr:Hid (dw fs ws=false):=AY hl;clear pJ hck mi hf bI GL hq hcs hl;generalize qb:ws.length=n at*;generalize XR:fs.length=m at*;clear qb XR;go_enter func176,ntmps176;go_wp2;go_ret;exact⟨cO jr.out.symm,Only.refl _ _,fun h=>by rw[jr.out]at h;cases h⟩
end bJ
namespace bJ
open Go.RowKit
attribute [local go_sem] aL.ag aL.ar
variable{base q b k:Nat}{dz w:World}
def dI(b k:Nat):JT:=⟨216, #[.pointer (some ⟨b,0,none⟩)],k,fun l=>(cF l).2,fun l=> .int .i64 (cF l).1⟩
def fR(b b2 k:Nat)(p:List UInt8->Bool):JT:=⟨219, #[.pointer (some ⟨b,0,none⟩), .pointer (some ⟨b2,0,none⟩)],k,p,fun l=> .string ⟨l.toArray⟩⟩
theorem xW{wr:World}(hb:Below base dz w)(hq:base<=q)(hB:base<=w.heap.size)(h:Only (fun b=>b=q) w wr):Below base dz wr:=hb.trans (h.toBelow (fun _ hk=>hk▸hq) hB)
theorem lh(L:kE base dz)(hb:Below base dz w)(hB:base<=w.heap.size)(hq:base<=q)(hbq:b≠q)(px:b<w.heap.size)(hk:k<5)(hc:w.cell? ⟨b,0,none⟩=some (.pointer (some ⟨q,k,none⟩))):(dI b k).ok q w:=by
 refine⟨enters_of func216 (by kernel_rfl) rfl,fun s wr cs hs ho jm hcs=> ?_⟩;have yz:=xW hb hq hB ho;have HN:=(Es L).says s wr hs yz;have uK:q<wr.heap.size:=(cT.1 jm).1;have acn:b<wr.heap.size:=bP px ho.size;have hc':wr.cell? ⟨b,0,none⟩=some (.pointer (some ⟨q,k,none⟩)):=by simp only[World.cell?,ho.block b px hbq]at hc⊢;exact hc
 show Calls prog 216 #[.string s, .pointer (some ⟨b,0,none⟩)] wr fun e w'=>e= .returned (.bool (cF s.data.toList).2)∧Only (fun b=>b=q) wr w'∧((cF s.data.toList).2=true->w'.heap[q]?=some (.cells (cs.setIfInBounds k (.int .i64 (cF s.data.toList).1)) 149 (0,0)));cases hn:(cF s.data.toList).2
 ·rw[hn]at HN;clear hc hc' jm;go_enter func216,ntmps216;go_wp2_with (first|(go_at_call 217;go_must(refine HN.mono ?_;rintro e w1⟨rfl,hb1⟩)));go_ret;exact⟨rfl,ic hb1,fun h=>by cases h⟩
 ·rw[hn]at HN;have cg:s.size<=6:=(uE (E6 hn)).2.1;have HA:Hid (∀w1,Calls prog 218 #[.string s] w1 fun e w'=>e= .returned (.tuple #[.int .i64 (cF s.data.toList).1, .nilIface])∧Below w1.heap.size w1 w'):=fun w1=>by
   refine(Any.strconv_Atoi atoi s (cF s.data.toList).1 (by omega) (Oz hn) w1).mono ?_;rintro e w'⟨rfl,t,rfl⟩;exact⟨rfl,Go.Joins.below_bytesWorld _ _ _ _ (ae _)⟩
  have HC:Hid (∀w2,Below wr.heap.size wr w2->w2.cell? ⟨b,0,none⟩=some (.pointer (some ⟨q,k,none⟩))∧(∃y,w2.cell? ⟨q,k,none⟩=some y)∧w2.frozen? ⟨q,k,none⟩=false∧ ∀v,Only (fun b=>b=q) wr (w2.setCell ⟨q,k,none⟩ v)∧(w2.setCell ⟨q,k,none⟩ v).heap[q]?=some (.cells (cs.setIfInBounds k v) 149 (0,0))):=fun w2 h2=>by have qN:w2.heap[q]?=some (.cells cs 149 (0,0)):=(h2.block q uK).trans jm;refine⟨by rw[h2.cell (p:=⟨b,0,none⟩) acn];exact hc',⟨cs[k]'(by omega), ?_⟩,by simp only[World.frozen?,qN];simp,fun v=>⟨(ic h2).setCell _ _ (fun _=>rfl),heap_setCell_same w2 q k cs _ v qN⟩⟩;simp only[World.cell?,qN];exact Array.getElem?_eq_getElem (by omega)
  generalize(cF s.data.toList).1=num at*;clear hc hc' jm hn hb yz;go_enter func216,ntmps216;go_wp2_with (first
   |(go_at_call 217;go_must(refine HN.mono ?_;rintro e w1⟨rfl,hb1⟩))
   |(go_at_call 218;go_must(refine(HA.out _).mono ?_;rintro e w2⟨rfl,bN⟩;obtain⟨c1,⟨y,c2⟩,f2,Aj⟩:=HC.out w2 (hb1.trans (bN.mono hb1.size));have Lc:=Aj (.int .i64 num);have VI:Hid (_∧_):=Lc;clear Aj Lc)))
  go_ret;exact⟨rfl,VI.out.1,fun _=>VI.out.2⟩
theorem td{b2:Nat}{p:List UInt8->Bool}{g:Nat}(S:Says base dz g p)(hb:Below base dz w)(hB:base<=w.heap.size)(hq:base<=q)(hbq:b≠q)(px:b<w.heap.size)(aaD:b2≠q)(LW:b2<w.heap.size)(hk:k<5)(hc:w.cell? ⟨b,0,none⟩=some (.pointer (some ⟨q,k,none⟩)))(Kw:w.cell? ⟨b2,0,none⟩=some (.func (.func g) #[] #[])):(fR b b2 k p).ok q w:=by
 refine⟨enters_of func219 (by kernel_rfl) rfl,fun s wr cs hs ho jm hcs=> ?_⟩;have uK:q<wr.heap.size:=(cT.1 jm).1;have d1:wr.cell? ⟨b,0,none⟩=some (.pointer (some ⟨q,k,none⟩)):=by simp only[World.cell?,ho.block b px hbq]at hc⊢;exact hc
 have o1:Only (fun b=>b=q) wr (wr.setCell ⟨q,k,none⟩ (.string s)):=(Only.refl _ _).setCell _ _ (fun _=>rfl);have d2:(wr.setCell ⟨q,k,none⟩ (.string s)).cell? ⟨b2,0,none⟩=some (.func (.func g) #[] #[]):=by
  have h2:(wr.setCell ⟨q,k,none⟩ (.string s)).heap[b2]?=w.heap[b2]?:=by rw[o1.block b2 (bP LW ho.size) aaD,ho.block b2 LW aaD]
  simp only[World.cell?,h2]at Kw⊢;exact Kw
 have cq:wr.cell? ⟨q,k,none⟩=some (cs[k]'(by omega)):=by simp only[World.cell?,jm];exact Array.getElem?_eq_getElem (by omega)
 have fq:wr.frozen? ⟨q,k,none⟩=false:=by simp only[World.frozen?,jm];simp
 have ng:=heap_setCell_same wr q k cs _ (.string s) jm;have yz:Below base dz (wr.setCell ⟨q,k,none⟩ (.string s)):=xW hb hq hB (ho.trans o1 (fun _ _ h=>h));have HM:Hid (Calls prog g #[.string s] (wr.setCell ⟨q,k,none⟩ (.string s)) fun e w'=>e= .returned (.bool (p s.data.toList))∧Below (wr.setCell ⟨q,k,none⟩ (.string s)).heap.size (wr.setCell ⟨q,k,none⟩ (.string s)) w'):=S.says s _ hs yz;have eg:=S.enter;have HF:Hid (∀w',Below (wr.setCell ⟨q,k,none⟩ (.string s)).heap.size (wr.setCell ⟨q,k,none⟩ (.string s)) w'->Only (fun b=>b=q) wr w'∧w'.heap[q]?=some (.cells (cs.setIfInBounds k (.string s)) 149 (0,0))):=fun w' h=>⟨o1.trans (ic h) (fun _ _ h=>h),(h.block q (by simpa[World.setCell]using uK)).trans ng⟩;show Calls prog 219 #[.string s, .pointer (some ⟨b,0,none⟩), .pointer (some ⟨b2,0,none⟩)] wr fun e w'=>e= .returned (.bool (p s.data.toList))∧Only (fun b=>b=q) wr w'∧(p s.data.toList=true->w'.heap[q]?=some (.cells (cs.setIfInBounds k (.string s)) 149 (0,0)));generalize p s.data.toList=pb at*;clear hc Kw jm ng yz o1 ho S hb;go_enter func219,ntmps219;go_wp2_with (first
  |(go_at_fn g;go_must(refine HM.out.mono ?_;rintro e w1⟨rfl,hb1⟩;have pB:=HF.out w1 hb1;clear hb1)))
 go_ret;exact⟨rfl,pB.1,fun _=>pB.2⟩
theorem E7(q k:Nat)(w:World):Calls prog 175 #[.pointer (some ⟨q,k,none⟩)] w fun e w'=>e= .returned (.func (.func 216) #[] #[.pointer (some ⟨w.heap.size,0,none⟩)])∧w'=w.alloc (.cells #[.pointer (some ⟨q,k,none⟩)] 236):=by go_enter func175,ntmps175;go_wp2;go_ret;exact⟨rfl,rfl⟩
theorem ND(q k g:Nat)(w:World):Calls prog 177 #[.pointer (some ⟨q,k,none⟩), .func (.func g) #[] #[]] w fun e w'=>e= .returned (.func (.func 219) #[] #[.pointer (some ⟨w.heap.size,0,none⟩), .pointer (some ⟨w.heap.size+1,0,none⟩)])∧w'=(w.alloc (.cells #[.pointer (some ⟨q,k,none⟩)] 239)).alloc (.cells #[.func (.func g) #[] #[]] 116):=by go_enter func177,ntmps177;go_wp2;go_ret;exact⟨by simp,rfl⟩
variable{q:Nat}
def cs0(k:List UInt8):Array Value:= #[.string ⟨k.toArray⟩, .int .i64 0, .int .i64 0, .string ⟨#[]⟩, .string ⟨#[]⟩]
theorem JP(r:List (List UInt8)):(aT ([112,117,108,108]::r)).2=dw [] r∧(dw [] r=true->jO [] r (cs0 [112,117,108,108])=(aT ([112,117,108,108]::r)).1.cs):=by
 rcases r with _|⟨a,_|⟨b,_|⟨c,_|⟨d,r⟩⟩⟩⟩
 all_goals simp[aT,dw,jO,eF,eU,dp,gi,kFail,cH,fC,Mg.cs,cs0]
theorem JM(r:List (List UInt8)):(aT ([98,101,97,116]::r)).2=dw [] r∧(dw [] r=true->jO [] r (cs0 [98,101,97,116])=(aT ([98,101,97,116]::r)).1.cs):=by
 rcases r with _|⟨a,_|⟨b,_|⟨c,_|⟨d,r⟩⟩⟩⟩
 all_goals simp[aT,dw,jO,eF,eU,dp,gi,kFail,cH,fC,Mg.cs,cs0]
theorem Gt(r:List (List UInt8)):(aT ([100,114,97,105,110]::r)).2=dw [] r∧(dw [] r=true->jO [] r (cs0 [100,114,97,105,110])=(aT ([100,114,97,105,110]::r)).1.cs):=by
 rcases r with _|⟨a,_|⟨b,_|⟨c,_|⟨d,r⟩⟩⟩⟩
 all_goals simp[aT,dw,jO,eF,eU,dp,gi,kFail,cH,fC,Mg.cs,cs0]
theorem NF(N1:Nat)(r:List (List UInt8)):(aT ([99,97,110]::r)).2=dw [dI N1 1] r∧(dw [dI N1 1] r=true->jO [dI N1 1] r (cs0 [99,97,110])=(aT ([99,97,110]::r)).1.cs):=by
 rcases r with _|⟨a,_|⟨b,_|⟨c,_|⟨d,r⟩⟩⟩⟩
 all_goals simp[aT,dw,jO,eF,eU,dp,gi,kFail,cH,fC,dI,Mg.cs,cs0]
theorem JO(N1 N2:Nat)(r:List (List UInt8)):(aT ([102,97,105,108]::r)).2=dw [dI N1 1,dI N2 2] r∧(dw [dI N1 1,dI N2 2] r=true->jO [dI N1 1,dI N2 2] r (cs0 [102,97,105,108])=(aT ([102,97,105,108]::r)).1.cs):=by
 rcases r with _|⟨a,_|⟨b,_|⟨c,_|⟨d,r⟩⟩⟩⟩
 all_goals simp[aT,dw,jO,eF,eU,dp,gi,kFail,cH,fC,dI,Mg.cs,cs0]
theorem NG(N1 B1 B2 B3 B4:Nat)(r:List (List UInt8)):(aT ([115,117,98]::r)).2=dw [dI N1 1,fR B1 B2 3 ux,fR B3 B4 4 m6] r∧(dw [dI N1 1,fR B1 B2 3 ux,fR B3 B4 4 m6] r=true->jO [dI N1 1,fR B1 B2 3 ux,fR B3 B4 4 m6] r (cs0 [115,117,98])=(aT ([115,117,98]::r)).1.cs):=by
 rcases r with _|⟨a,_|⟨b,_|⟨c,_|⟨d,r⟩⟩⟩⟩
 all_goals simp[aT,dw,jO,eF,eU,dp,gi,kFail,cH,fC,dI,fR,Bool.and_assoc,Mg.cs,cs0]
theorem JN(N1 N2 B1 B2:Nat)(r:List (List UInt8)):(aT ([100,111,110,101]::r)).2=dw [dI N1 1,dI N2 2,fR B1 B2 4 m6] r∧(dw [dI N1 1,dI N2 2,fR B1 B2 4 m6] r=true->jO [dI N1 1,dI N2 2,fR B1 B2 4 m6] r (cs0 [100,111,110,101])=(aT ([100,111,110,101]::r)).1.cs):=by
 rcases r with _|⟨a,_|⟨b,_|⟨c,_|⟨d,r⟩⟩⟩⟩
 all_goals simp[aT,dw,jO,eF,eU,dp,gi,kFail,cH,dI,fR,Bool.and_assoc,Mg.cs,cs0]
theorem Gu{k:List UInt8}(h0:(k== [112,117,108,108])=false)(h1:(k== [98,101,97,116])=false)(h2:(k== [100,114,97,105,110])=false)(h3:(k== [99,97,110])=false)(h4:(k== [102,97,105,108])=false)(h5:(k== [115,117,98])=false)(h6:(k== [100,111,110,101])=false)(r:List (List UInt8)):(aT (k::r)).2=false:=by
 have e:k≠ [112,117,108,108]∧k≠ [98,101,97,116]∧k≠ [100,114,97,105,110]∧k≠ [99,97,110]∧k≠ [102,97,105,108]∧k≠ [115,117,98]∧k≠ [100,111,110,101]:=⟨by simpa using h0,by simpa using h1,by simpa using h2,by simpa using h3,by simpa using h4,by simpa using h5,by simpa using h6⟩;obtain⟨e0,e1,e2,e3,e4,e5,e6⟩:=e;rcases r with _|⟨a,_|⟨b,_|⟨c,_|⟨d,r⟩⟩⟩⟩
 all_goals simp[aT,eF,eU,dp,gi,kFail,cH,fC,e0,e1,e2,e3,e4,e5,e6]
def fvs(fs:List JT):Array Value:=(fs.map fun f=>Value.func (.func f.g) #[] f.lb).toArray
theorem BK(W:World)(r:List (List UInt8))(fs:List JT)(ao:Option Addr)(a cap:Nat)(cs:Array Value)(hq:W.heap[q]?=some (.cells cs 149 (0,0)))(hcs:cs.size=5)(hf: ∀f∈fs,f.ok q (W.alloc (.cells (fvs fs) 234)))(bI:0<r.length->ao=some ⟨a,1,none⟩∧a<W.heap.size∧a≠q)(mi: ∀x∈r,x.length<=4194304)(gS:r.length<=4194304)(nC:fs.length<=3)(pJ: ∀i (h:i<r.length),W.cell? ⟨a,1+i,none⟩=some (.string ⟨(r[i]'h).toArray⟩)):Calls prog 176 #[.slice ao r.length cap, .slice (some ⟨W.heap.size,0,none⟩) fs.length fs.length] (W.alloc (.cells (fvs fs) 234)) fun e w'=>e= .returned (.bool (dw fs r))∧Only (fun b=>b=q) W w'∧(dw fs r=true->w'.heap[q]?=some (.cells (jO fs r cs) 149 (0,0))):=by
 have uK:q<W.heap.size:=(cT.1 hq).1;have hb:Below W.heap.size W (W.alloc (.cells (fvs fs) 234)):=(ah _ _).alloc (ae _) _;refine(Kk q r fs ao (some ⟨W.heap.size,0,none⟩) a W.heap.size cap fs.length _ cs hf ((hb.block q uK).trans hq) hcs (fun h=> ?_) (fun _=>⟨rfl,by simp,by omega⟩) mi nC gS (fun i h=> ?_) (fun i h=> ?_)).mono ?_
 ·obtain⟨h1,h2,h3⟩:=bI h;exact⟨h1,by simp;omega,h3⟩
 ·obtain⟨h1,h2,h3⟩:=bI (by omega);rw[hb.cell (p:=⟨a,1+i,none⟩) h2];exact pJ i h
 ·simp only[World.cell?,heap_alloc_new];show(fvs fs)[i]?=_;unfold fvs;simp[h]
 ·rintro e w'⟨rfl,ho,hp⟩;exact⟨rfl,(ic hb).trans ho (fun _ _ h=>h),hp⟩
theorem BL(W:World)(r:List (List UInt8))(ao:Option Addr)(a cap:Nat)(cs:Array Value)(hq:W.heap[q]?=some (.cells cs 149 (0,0)))(hcs:cs.size=5)(bI:0<r.length->ao=some ⟨a,1,none⟩∧a<W.heap.size∧a≠q)(mi: ∀x∈r,x.length<=4194304)(gS:r.length<=4194304)(pJ: ∀i (h:i<r.length),W.cell? ⟨a,1+i,none⟩=some (.string ⟨(r[i]'h).toArray⟩)):Calls prog 176 #[.slice ao r.length cap, .slice none 0 0] W fun e w'=>e= .returned (.bool (dw [] r))∧Only (fun b=>b=q) W w'∧(dw [] r=true->w'.heap[q]?=some (.cells (jO [] r cs) 149 (0,0))):=
 Kk q r [] ao none a 0 cap 0 W cs (fun f hf=>by cases hf) hq hcs bI (fun h=>absurd h (by simp)) mi (by simp) gS pJ (fun i h=>absurd h (by simp))
theorem dQ{w w':World}(h:Below w.drew.heap.size w.drew w'):Below w.heap.size w w':=⟨h.os,h.tape,h.output,h.size,h.block⟩
def tq(q:Nat)(k:List UInt8)(r:List (List UInt8))(w:World)(e:Ending)(w':World):Prop:=e= .returned (.bool (aT (k::r)).2)∧Only (fun b=>b=q) w w'∧((aT (k::r)).2=true->w'.heap[q]?=some (.cells (aT (k::r)).1.cs 149 (0,0)))
theorem mJ(q k:Nat)(w:World):Calls prog 175 #[.pointer (some ⟨q,k,none⟩)] w fun e w'=> ∃N,e= .returned (.func (.func 216) #[] #[.pointer (some ⟨N,0,none⟩)])∧w.heap.size<=N∧N<w'.heap.size∧Below w.heap.size w w'∧w'.cell? ⟨N,0,none⟩=some (.pointer (some ⟨q,k,none⟩)):=by refine(E7 q k w).mono ?_;rintro e w'⟨rfl,rfl⟩;exact⟨_,rfl,ae _,by simp,(ah _ _).alloc (ae _) _,by simp only[World.cell?,heap_alloc_new];rfl⟩
theorem Wq(q k g:Nat)(w:World):Calls prog 177 #[.pointer (some ⟨q,k,none⟩), .func (.func g) #[] #[]] w fun e w'=> ∃B1 B2,e= .returned (.func (.func 219) #[] #[.pointer (some ⟨B1,0,none⟩), .pointer (some ⟨B2,0,none⟩)])∧w.heap.size<=B1∧B1<w'.heap.size∧w.heap.size<=B2∧B2<w'.heap.size∧Below w.heap.size w w'∧w'.cell? ⟨B1,0,none⟩=some (.pointer (some ⟨q,k,none⟩))∧w'.cell? ⟨B2,0,none⟩=some (.func (.func g) #[] #[]):=by
 refine(ND q k g w).mono ?_;rintro e w'⟨rfl,rfl⟩;have hb1:Below w.heap.size w (w.alloc (.cells #[.pointer (some ⟨q,k,none⟩)] 239)):=(ah _ _).alloc (ae _) _;have iA:(w.alloc (.cells #[.pointer (some ⟨q,k,none⟩)] 239)).heap.size=w.heap.size+1:=by simp
 have bN:=(ah (w.heap.size+1) (w.alloc (.cells #[.pointer (some ⟨q,k,none⟩)] 239))).alloc (by omega) (.cells #[.func (.func g) #[] #[]] 116);refine⟨w.heap.size,w.heap.size+1,rfl,ae _,by simp;omega,by omega,by simp,hb1.alloc (by omega) _, ?_, ?_⟩
 ·rw[bN.cell (p:=⟨w.heap.size,0,none⟩) (by show w.heap.size<w.heap.size+1;omega)];simp only[World.cell?,heap_alloc_new];rfl
 ·rw[<-iA];simp only[World.cell?,heap_alloc_new];rfl
variable{base:Nat}{dz:World}
theorem Rx(L:kE base dz)(q:Nat)(k:List UInt8)(r:List (List UInt8))(ao:Option Addr)(a cap:Nat)(w:World)(hb:Below base dz w)(hB:base<=w.heap.size)(Ba:base<=q)(jm:w.heap[q]?=some (.cells (cs0 k) 149 (0,0)))(bI:0<r.length->ao=some ⟨a,1,none⟩∧a<w.heap.size∧a≠q)(mi: ∀x∈r,x.length<=4194304)(gS:r.length<=4194304)(pJ: ∀i (h:i<r.length),w.cell? ⟨a,1+i,none⟩=some (.string ⟨(r[i]'h).toArray⟩))(h0:(k== [112,117,108,108])=false)(h1:(k== [98,101,97,116])=false)(h2:(k== [100,114,97,105,110])=false)(hv:(k== [99,97,110])=true):Calls prog 134 #[.pointer (some ⟨q,0,none⟩), .slice ao r.length cap] w (tq q k r w):=by
 have uK:q<w.heap.size:=(cT.1 jm).1;have uG:Hid (∀k w1,_):=fun k w1=>mJ q k w1;have HK:Hid (∀W,Below w.heap.size w W->W.cell? ⟨q,0,none⟩=some (.string ⟨k.toArray⟩)):=fun W h=>by rw[h.cell (p:=⟨q,0,none⟩) uK];simp only[World.cell?,jm];rfl
 have hk:k= [99,97,110]:=by simpa using hv
 have HF:Hid (∀W N1,Below w.heap.size w W->w.heap.size<=N1∧N1<W.heap.size->W.cell? ⟨N1,0,none⟩=some (.pointer (some ⟨q,1,none⟩))-> ∀nq,Calls prog 176 #[.slice ao r.length cap, .slice (some ⟨W.heap.size,0,none⟩) 1 1] ((W.drewN nq).alloc (.cells #[.func (.func 216) #[] #[.pointer (some ⟨N1,0,none⟩)]] 234)) fun e w'=>e= .returned (.bool (aT (k::r)).2)∧Hid (Only (fun b=>b=q) w w'∧((aT (k::r)).2=true->w'.heap[q]?=some (.cells (aT (k::r)).1.cs 149 (0,0))))):=fun W0 N1 h0 rW uH nq=>by
  obtain⟨W,eW⟩: ∃W,W0.drewN nq=W:=⟨_,rfl⟩;have es:W.heap.size=W0.heap.size:=by rw[<-eW];rfl
  have ec: ∀p,W.cell? p=W0.cell? p:=fun p=>by rw[<-eW];rfl
  have h:Below w.heap.size w W:=by rw[<-eW];exact⟨h0.os,h0.tape,h0.output,h0.size,h0.block⟩
  rw[eW,<-es];rw[<-es]at rW;rw[<-ec]at uH;have HW:=NF N1 r;have tR:Below W.heap.size W (W.alloc (.cells #[.func (.func 216) #[] #[.pointer (some ⟨N1,0,none⟩)]] 234)):=(ah _ _).alloc (ae _) _;have Po:base<=W.heap.size:=aw hB h.size;have NS:Below base dz (W.alloc (.cells #[.func (.func 216) #[] #[.pointer (some ⟨N1,0,none⟩)]] 234)):=(hb.trans (h.mono hB)).alloc Po _;have NQ:base<=(W.alloc (.cells #[.func (.func 216) #[] #[.pointer (some ⟨N1,0,none⟩)]] 234)).heap.size:=aw Po tR.size;have ay: ∀n,n<W.heap.size->n<(W.alloc (.cells #[.func (.func 216) #[] #[.pointer (some ⟨N1,0,none⟩)]] 234)).heap.size:=fun n hn=>bP hn tR.size;refine(BK W r [dI N1 1] ao a cap (cs0 k) ((h.block q uK).trans jm) rfl (fun f hf=> ?_) (fun h0=> ?_) mi gS (by simp) (fun i hi=> ?_)).mono ?_
  ·simp only[List.mem_cons,List.not_mem_nil,or_false]at hf;subst hf
   ·exact lh L NS NQ Ba (by omega) (ay _ rW.2) (by omega) ((tR.cell (p:=⟨N1,0,none⟩) rW.2).trans uH)
  ·obtain⟨h1,h2,h3⟩:=bI h0;exact⟨h1,bP h2 h.size,h3⟩
  ·rw[h.cell (p:=⟨a,1+i,none⟩) (bI (by omega)).2.1];exact pJ i hi
  ·rintro e w'⟨rfl,ho,hp⟩;rw[hk]at hp⊢;exact⟨by rw[HW.1],(ic h).trans ho (fun _ _ h=>h),fun h=>by rw[HW.1]at h;rw[<-HW.2 h];exact hp h⟩
 clear jm bI mi pJ L hk hb;generalize og:r.length=rl at*;clear og;have M1:True:=trivial;go_enter func134,ntmps134;go_wp2_with fail;go_region_held3 (fun _=>True) (trivial)
  (first
   |(go_at_call 175;first
     |(clear M1;go_must(refine(uG.out _ _).mono ?_;rintro e w1⟨N1,rfl,GV,Bi,hb1,uH⟩))
     |(go_must(refine(uG.out _ _).mono ?_;rintro e w2⟨N2,rfl,GW,GY,bN,zU⟩))))
 all_goals
  have gO:=dQ hb1;have mf:Below w1.heap.size w1 w2:=by first|exact bN|exact dQ bN
  have HB:Below w.heap.size w w2:=gO.trans (mf.mono gO.size);have c0:=HK.out w2 HB;have rW:w.heap.size<=N1∧N1<w2.heap.size:=⟨GV,bP Bi mf.size⟩;have xZ:w2.cell? ⟨N1,0,none⟩=some (.pointer (some ⟨q,1,none⟩)):=by rw[mf.cell (p:=⟨N1,0,none⟩) Bi];exact uH
  have Cb:w.heap.size<=N2∧N2<w2.heap.size:=⟨aw gO.size GW,GY⟩;have zN:Hid (Calls _ _ _ _ _):=HF.out w2 _ HB rW xZ 0;clear HF uG HK hb1 bN gO mf uH xZ zU HB GV Bi GW GY rW Cb;go_wp2_with (first
   |(go_at_call 176;go_must(refine zN.out.mono ?_;rintro e w3⟨rfl,HP⟩)))
  go_ret;exact⟨rfl,HP.out⟩
theorem Ns(L:kE base dz)(q:Nat)(k:List UInt8)(r:List (List UInt8))(ao:Option Addr)(a cap:Nat)(w:World)(hb:Below base dz w)(hB:base<=w.heap.size)(Ba:base<=q)(jm:w.heap[q]?=some (.cells (cs0 k) 149 (0,0)))(bI:0<r.length->ao=some ⟨a,1,none⟩∧a<w.heap.size∧a≠q)(mi: ∀x∈r,x.length<=4194304)(gS:r.length<=4194304)(pJ: ∀i (h:i<r.length),w.cell? ⟨a,1+i,none⟩=some (.string ⟨(r[i]'h).toArray⟩))(h0:(k== [112,117,108,108])=false)(h1:(k== [98,101,97,116])=false)(h2:(k== [100,114,97,105,110])=false)(h3:(k== [99,97,110])=false)(hv:(k== [102,97,105,108])=true):Calls prog 134 #[.pointer (some ⟨q,0,none⟩), .slice ao r.length cap] w (tq q k r w):=by
 have uK:q<w.heap.size:=(cT.1 jm).1;have uG:Hid (∀k w1,_):=fun k w1=>mJ q k w1;have HK:Hid (∀W,Below w.heap.size w W->W.cell? ⟨q,0,none⟩=some (.string ⟨k.toArray⟩)):=fun W h=>by rw[h.cell (p:=⟨q,0,none⟩) uK];simp only[World.cell?,jm];rfl
 have hk:k= [102,97,105,108]:=by simpa using hv
 have HF:Hid (∀W N1 N2,Below w.heap.size w W->w.heap.size<=N1∧N1<W.heap.size->w.heap.size<=N2∧N2<W.heap.size->W.cell? ⟨N1,0,none⟩=some (.pointer (some ⟨q,1,none⟩))->W.cell? ⟨N2,0,none⟩=some (.pointer (some ⟨q,2,none⟩))-> ∀nq,Calls prog 176 #[.slice ao r.length cap, .slice (some ⟨W.heap.size,0,none⟩) 2 2] ((W.drewN nq).alloc (.cells #[.func (.func 216) #[] #[.pointer (some ⟨N1,0,none⟩)], .func (.func 216) #[] #[.pointer (some ⟨N2,0,none⟩)]] 234)) fun e w'=>e= .returned (.bool (aT (k::r)).2)∧Hid (Only (fun b=>b=q) w w'∧((aT (k::r)).2=true->w'.heap[q]?=some (.cells (aT (k::r)).1.cs 149 (0,0))))):=fun W0 N1 N2 h0 rW Cb uH zU nq=>by
  obtain⟨W,eW⟩: ∃W,W0.drewN nq=W:=⟨_,rfl⟩;have es:W.heap.size=W0.heap.size:=by rw[<-eW];rfl
  have ec: ∀p,W.cell? p=W0.cell? p:=fun p=>by rw[<-eW];rfl
  have h:Below w.heap.size w W:=by rw[<-eW];exact⟨h0.os,h0.tape,h0.output,h0.size,h0.block⟩
  rw[eW,<-es];rw[<-es]at rW Cb;rw[<-ec]at uH zU;have HW:=JO N1 N2 r;have tR:Below W.heap.size W (W.alloc (.cells #[.func (.func 216) #[] #[.pointer (some ⟨N1,0,none⟩)], .func (.func 216) #[] #[.pointer (some ⟨N2,0,none⟩)]] 234)):=(ah _ _).alloc (ae _) _;have Po:base<=W.heap.size:=aw hB h.size;have NS:Below base dz (W.alloc (.cells #[.func (.func 216) #[] #[.pointer (some ⟨N1,0,none⟩)], .func (.func 216) #[] #[.pointer (some ⟨N2,0,none⟩)]] 234)):=(hb.trans (h.mono hB)).alloc Po _;have NQ:base<=(W.alloc (.cells #[.func (.func 216) #[] #[.pointer (some ⟨N1,0,none⟩)], .func (.func 216) #[] #[.pointer (some ⟨N2,0,none⟩)]] 234)).heap.size:=aw Po tR.size;have ay: ∀n,n<W.heap.size->n<(W.alloc (.cells #[.func (.func 216) #[] #[.pointer (some ⟨N1,0,none⟩)], .func (.func 216) #[] #[.pointer (some ⟨N2,0,none⟩)]] 234)).heap.size:=fun n hn=>bP hn tR.size;refine(BK W r [dI N1 1,dI N2 2] ao a cap (cs0 k) ((h.block q uK).trans jm) rfl (fun f hf=> ?_) (fun h0=> ?_) mi gS (by simp) (fun i hi=> ?_)).mono ?_
  ·simp only[List.mem_cons,List.not_mem_nil,or_false]at hf;rcases hf with rfl|rfl
   ·exact lh L NS NQ Ba (by omega) (ay _ rW.2) (by omega) ((tR.cell (p:=⟨N1,0,none⟩) rW.2).trans uH)
   ·exact lh L NS NQ Ba (by omega) (ay _ Cb.2) (by omega) ((tR.cell (p:=⟨N2,0,none⟩) Cb.2).trans zU)
  ·obtain⟨h1,h2,h3⟩:=bI h0;exact⟨h1,bP h2 h.size,h3⟩
  ·rw[h.cell (p:=⟨a,1+i,none⟩) (bI (by omega)).2.1];exact pJ i hi
  ·rintro e w'⟨rfl,ho,hp⟩;rw[hk]at hp⊢;exact⟨by rw[HW.1],(ic h).trans ho (fun _ _ h=>h),fun h=>by rw[HW.1]at h;rw[<-HW.2 h];exact hp h⟩
 clear jm bI mi pJ L hk hb;generalize og:r.length=rl at*;clear og;have M1:True:=trivial;go_enter func134,ntmps134;go_wp2_with fail;go_region_held3 (fun _=>True) (trivial)
  (first
   |(go_at_call 175;first
     |(clear M1;go_must(refine(uG.out _ _).mono ?_;rintro e w1⟨N1,rfl,GV,Bi,hb1,uH⟩))
     |(go_must(refine(uG.out _ _).mono ?_;rintro e w2⟨N2,rfl,GW,GY,bN,zU⟩))))
 all_goals
  have gO:=dQ hb1;have mf:Below w1.heap.size w1 w2:=by first|exact bN|exact dQ bN
  have HB:Below w.heap.size w w2:=gO.trans (mf.mono gO.size);have c0:=HK.out w2 HB;have rW:w.heap.size<=N1∧N1<w2.heap.size:=⟨GV,bP Bi mf.size⟩;have xZ:w2.cell? ⟨N1,0,none⟩=some (.pointer (some ⟨q,1,none⟩)):=by rw[mf.cell (p:=⟨N1,0,none⟩) Bi];exact uH
  have Cb:w.heap.size<=N2∧N2<w2.heap.size:=⟨aw gO.size GW,GY⟩;have zN:Hid (Calls _ _ _ _ _):=HF.out w2 _ _ HB rW Cb xZ zU 0;clear HF uG HK hb1 bN gO mf uH xZ zU HB GV Bi GW GY rW Cb;go_wp2_with (first
   |(go_at_call 176;go_must(refine zN.out.mono ?_;rintro e w3⟨rfl,HP⟩)))
  go_ret;exact⟨rfl,HP.out⟩
end bJ
namespace Mr
open Go.RowKit aM Mc
attribute [local go_sem] aL.ag aL.ar
variable{wr:World}
theorem bj{cur w4:World}(h:Below wr.heap.size wr cur)(l9:Below cur.heap.size cur w4):Below wr.heap.size wr w4:=h.trans (l9.mono h.size)
structure iQ(p:Nat)(s:St)(id:Int)(w:World)(F:Ft)(s':St)(wr:World):Prop where
 st:St.eB s s' id
 sz:s'.sz<=s.sz
 goes:Goes (aU p s') w F wr
 rest: ∃f,s'.af.length<=f∧St.stops s.af.length s id=St.stops f s' id
theorem iQ.next{p:Nat}{s s':St}{id:Int}{w:World}{F:Ft}{w2:World}(h:iQ p s id w F s' wr){i:Nat}{a:At}(hi:s'.af.findIdx? (·.id==id)=some i)(ha:s'.af[i]?=some a)(hg:Goes (aU p ((s'.say a.conn (St.aD id a.n)).aS i)) w F w2):iQ p s id w F ((s'.say a.conn (St.aD id a.n)).aS i) w2:=by
 obtain⟨f,hf,e⟩:=h.rest;have hlen:=St.eH ha;have h2:=St.mD (s:=s'.say a.conn (St.aD id a.n)) ha;rw[St.eZ]at h2;refine⟨h.st.trans (St.FZ s' id _ _ _),by have:=h.sz;omega,hg, ?_⟩
 match f,hf,e with
 |0,hf,_=>omega
 |f+1,hf,e=>
  refine⟨f, ?_, ?_⟩
  ·rw[(St.cG (s:=s'.say a.conn (St.aD id a.n)) i).2.1];show(s'.af.eraseIdx i).length<=f;omega
  ·rw[e];conv=>lhs;unfold St.stops
   rw[hi];dsimp only;rw[ha]
