import Derived.Test.YtffamlbkmjmipaaGreatDoorC11
import Derived.Test.YtffamlbkmjmipaaGreatDoorC15
import Derived.Test.YtffamlbkmjmipaaGreatDoorC28
import Derived.Lib.AppendStr
import Derived.Lib.SmallJoins
import Derived.Lib.Atoi
set_option maxHeartbeats 8000000
set_option maxRecDepth 100000
namespace Go.Proofs.YtffamlbkmjmipaaGreatDoor
open _root_.Go.Proofs.Tryz
namespace ud
open Go.RowKit bG Go.Lib
variable{P:Program}
def mE(l:List UInt8):List Value:=l.map fun b=> .int .u8 (b.toNat:Int)
theorem zk(a b:List UInt8):mE (a++b)=mE a++mE b:=by simp[mE]
theorem ng(w:World)(base:Nat)(t u ty e:TypeId)(i:TypeInfo)(ht:P.underlying t=some (.slice e))(hu:P.underlying u=some .string)(hi:P.info? e=some i)(hz:i.zero=some (.int .u8 0))(kr:i.size=1)(z6:i.bytes=1)(v:Value)(n:Nat)(xs:List Value)(cY:w.ownsRow base e 1 v n xs)(s:ByteArray)(IH:n+s.size<=maxLen)(iJ:n+s.size<=140737488355328)(Nw:base<=w.heap.size): ∃v' w',(Builtin.append_ #[t,u] ty #[v, .string s]).run P w= .ok v' w'∧w'.ownsRow base e 1 v' (n+s.size) (xs++strCells s)∧w.grownBy w' v.ownBlock∧(v'.ownBlock=v.ownBlock∨v'.ownBlock=some w.heap.size):=by
 obtain⟨v',w',hr,ho,hg,_⟩:=run_append_own_string (P:=P) w base t u ty e i ht hu hi hz kr z6 v n xs cY s IH iJ Nw;refine⟨v',w',hr,ho,hg, ?_⟩;have Kw:xs.length=n:=by simpa using cY.1
 rcases cY.2 with⟨rfl,rfl⟩|⟨g,cap,cur,rfl,hbg,hgh,hnc,zr,hcs,UK⟩
 ·by_cases hm:s.size=0
  ·have B0:(Builtin.append_ #[t,u] ty #[.slice none 0 0, .string s]).run P w= .ok (.slice none 0 0) w:=by
    have hf:=run_firstCells_string (P:=P) w 1 s;rw[hm]at hf;simp[Builtin.append_,run_underlying ht,run_underlying hu,sizeOf,typeInfo,hi,kr,Builtin.lenOf,hm,hf]
   rw[B0]at hr;cases hr;exact Or.inl rfl
  ·have ZJ:s.size<=9223372036854775807:=by simp only[maxLen]at IH;omega
   have B0:=run_append_nil_string (P:=P) w t u ty e i (.int .u8 0) ht hu hi hz s (by omega) (by omega) (by rw[z6];omega);rw[B0]at hr;cases hr;exact Or.inr rfl
 ·by_cases uy:n+s.size<=cap
  ·have Kf:cur.size=cap:=by simpa using hcs
   have B0:=run_append_room_string (P:=P) w t u ty e i ht hu hi kr g n cap cur hgh s uy (by omega);rw[B0]at hr;cases hr;exact Or.inl rfl
  ·have holds: ∀j u,xs[j]?=some u->w.cell? ((⟨g,0,none⟩:Addr).add j)=some u:=cY.cells (g:=g) rfl;have ZJ:n+s.size<=9223372036854775807:=by simp only[maxLen]at IH;omega
   have B0:=run_append_grow_string (P:=P) w t u ty e i (.int .u8 0) ht hu hi hz ⟨g,0,none⟩ n cap xs (by rw[kr];simpa using Kw) holds s (by omega) (by omega) (by rw[z6];exact growslice_fits (by omega) (by omega));rw[B0]at hr;cases hr;exact Or.inr rfl
theorem qu{ops:Array Oper}{o:Oper}{a:Act}{w:World}{K:Act->World->Prop}{Q:Exit->Act->World->Prop}{E:Prop}(SL:o.guard=none)(sl x:Operand)(t u:TypeId)(ho:o.op= .call {callee:= .builtin .append,args:= #[sl,x],argTypes:= #[t,u]})(base:Nat)(e:TypeId)(i:TypeInfo)(ht:P.underlying t=some (.slice e))(hu:P.underlying u=some .string)(hi:P.info? e=some i)(hz:i.zero=some (.int .u8 0))(kr:i.size=1)(z6:i.bytes=1)(v:Value)(n:Nat)(xs:List Value)(hs:a.eval sl=v)(cY:w.ownsRow base e 1 v n xs)(s:ByteArray)(hx:a.eval x= .string s)(IH:n+s.size<=maxLen)(iJ:n+s.size<=140737488355328)(Nw:base<=w.heap.size)(h: ∀v' w',w'.ownsRow base e 1 v' (n+s.size) (xs++strCells s)->w.grownBy w' v.ownBlock->(v'.ownBlock=v.ownBlock∨v'.ownBlock=some w.heap.size)->K (a.put o.dst v') w'):if Region.wanted o (yielded ops a.tmps)=true then Oper.wp P o a w K Q else E:=by
 have hw:Region.wanted o (yielded ops a.tmps)=true:=by simp[Region.wanted,SL]
 rw[if_pos hw];obtain⟨v',w',hr,h2,h3,h4⟩:=ng (P:=P) w base t u o.type e i ht hu hi hz kr z6 v n xs cY s IH iJ Nw;unfold Oper.wp execOp;simp only[ho,resolve,invoke,builtin,Sem.run_bind,Sem.run_pure,Result.andThen_ok,List.map_toArray,List.map_cons,List.map_nil,hs,hx,hr];exact h v' w' h2 h3 h4
theorem infoByte:(prog.info? 5).map (fun i=>(i.zero,i.size,i.bytes))=some (some (.int .u8 0),1,1):=by kernel_rfl
theorem Mj(r:List UInt8)(s:ByteArray){k:Nat}(hr:r.length<=81)(hk:min (81-r.length) s.size=k):r++(s.extract 0 k).data.toList=(r++s.data.toList).take 81:=by
 rw[CC];show r++s.data.toList.take k=_;rw[List.take_append,List.take_of_length_le hr];congr 1;have e:s.data.toList.length=s.size:=by simp
 by_cases h:81-r.length<=s.size
 ·rw[<-hk,Nat.min_eq_left h]
 ·rw[<-hk,Nat.min_eq_right (by omega),List.take_of_length_le (by omega),List.take_of_length_le (by omega)]
theorem La{w:World}{base:Nat}{e:TypeId}{ao:Option Addr}{n cap:Nat}{xs:List Value}(h:w.ownsRow base e 1 (.slice ao n cap) n xs):w.ownsRow base e 1 (.slice ao 0 cap) 0 []:=by
 refine⟨rfl, ?_⟩;rcases h.2 with⟨h1,h0⟩|⟨g,bP,cur,h1,hb,hg,hn,hm,hs,ht⟩
 ·cases h1;exact Or.inl ⟨rfl,rfl⟩
 ·cases h1;exact Or.inr ⟨g,_,cur,rfl,hb,hg,bh _,hm,hs,by simp⟩
end ud
namespace bG
open Go.RowKit
variable{base:Nat}{cg:World}{l:List UInt8}
structure Says(base:Nat)(cg:World)(g:Nat)(p:List UInt8->Bool):Prop where
 enter: ∀args w,(callFunc g args).run prog w= .ok (.enter g args) w
 says: ∀(s:ByteArray) (w:World),s.size<=4194304->Below base cg w->Calls prog g #[.string s] w fun e w'=>e= .returned (.bool (p s.data.toList))∧Below w.heap.size w w'
theorem Dh(L:iP base cg):Says base cg 178 tV:=by refine⟨enters_of func178 (by kernel_rfl) rfl,fun s w hs hb=> ?_⟩;have HC:Calls _ _ _ _ fun e w'=>e= .returned (.bool (tV s.data.toList))∧Below w.heap.size w w':=mM L _ gA mW s 6 w hs hb;generalize tV s.data.toList=b at*;go_enter func178,ntmps178;go_wp2_with fail;refine HC.mono ?_;rintro e w1⟨rfl,bT⟩;go_wp2;go_ret;exact⟨rfl,bT⟩
theorem rM(L:iP base cg):Says base cg 179 mh:=by refine⟨enters_of func179 (by kernel_rfl) rfl,fun s w hs hb=> ?_⟩;have HC:Calls _ _ _ _ fun e w'=>e= .returned (.bool (mh s.data.toList))∧Below w.heap.size w w':=mM L _ gB qc s 12 w hs hb;generalize mh s.data.toList=b at*;go_enter func179,ntmps179;go_wp2_with fail;refine HC.mono ?_;rintro e w1⟨rfl,bT⟩;go_wp2;go_ret;exact⟨rfl,bT⟩
theorem P0(h: ∀i,i<l.length->byteAt l i<128): ∀(f i:Nat),l.length<=i+f->jw l f i=some ((l.drop i).map fun c=>(c.toNat:Int)):=by
 intro f
 induction f with
 |zero=>intro i hi;unfold jw;rw[nL _ _ (by omega),List.drop_eq_nil_of_le (by omega)];rfl
 |succ f ih=>
  intro i hi;by_cases hl:i<l.length
  ·have h1:=KE l i (h i hl);have KA:=ih (i+1) (by omega);have z6:byteAt l i=(l[i].toNat:Int):=by
    unfold byteAt;rw[aY hl];rfl
   unfold jw at KA⊢;rw[lU _ _ _ _ hl h1,KA,z6,<-List.getElem_cons_drop (h:=hl),List.map_cons];rfl
  ·unfold jw;rw[nL _ _ hl,List.drop_eq_nil_of_le (by omega)];rfl
theorem DJ(h:(cM l).2=true):gp iN 6 l=true:=by
 unfold cM at h;split at h
 ·rename_i hc;simp only[bm,decide_eq_true_eq]at hc;obtain⟨⟨⟨h1,h2⟩,_⟩,h4⟩:=hc;unfold od at h4;rw[List.all_eq_true]at h4;have hb: ∀i,i<l.length->byteAt l i<128:=fun i hi=>by
   have:=h4 l[i] (bS hi);unfold mV at this;simp only[bm,decide_eq_true_eq]at this;unfold byteAt;rw[aY hi];show((l[i]).toNat:Int)<128;omega
  have hl:lets l=some (l.map fun c=>(c.toNat:Int)):=P0 hb l.length 0 (by omega);rw[jG hl,List.all_map];have:l.all ((fun c=>iN c)∘fun c:UInt8=>(c.toNat:Int))=true:=by rw[List.all_eq_true];intro c hc;exact h4 c hc
  simp only[aF,bm,decide_eq_true_eq];exact⟨⟨this,h1⟩,h2⟩
 ·cases h
theorem Dg(L:iP base cg):Says base cg 217 (fun l=>(cM l).2):=by
 refine⟨enters_of func217 (by kernel_rfl) rfl,fun s w hs hb=> ?_⟩;have HC:=mM L _ iN zA s 6 w hs hb;cases hw:gp iN 6 s.data.toList
 ·have HN:Hid ((cM s.data.toList).2=false):=by
   show _=_;cases hn:(cM s.data.toList).2 with
   |false=>rfl
   |true=>rw[DJ hn]at hw;cases hw
  rw[hw]at HC;go_enter func217,ntmps217;go_wp2_with fail;refine HC.mono ?_;rintro e w1⟨rfl,bT⟩;go_wp2;go_ret;exact⟨cH HN.out.symm,bT⟩
 ·rw[hw]at HC;have hp:0<s.size:=by have:=sU hw;omega
  have H1:Hid (s.toList= [48]->(cM s.data.toList).2=true):=fun e=>Qe hw (fun h'=>by rw[ByteArray.toList_eq]at e;have:=congrArg List.length e;rw[slen]at this;have:=h'.1;simp at*;omega)
  have H2:Hid ((s[0].toNat:Int)≠48->(cM s.data.toList).2=true):=fun e=>Qe hw (fun h'=>e h'.2);have H3:Hid ((s[0].toNat:Int)=48->s.toList≠ [48]->(cM s.data.toList).2=false):=fun e h'=>by
   have h1:1<s.size:=by
    apply Classical.byContradiction;intro hn;have dc:s.size=1:=by omega
    apply h';rw[ByteArray.toList_eq];have hl:s.data.toList.length=1:=by rw[slen];exact dc
    have e0:s.data.toList[0]'(by omega)=48:=by apply UInt8.toNat.inj;show(s[0]).toNat=48;omega
    match hd:s.data.toList,hl with
    | [a],_=>simp only[hd,List.getElem_cons_zero]at e0;rw[e0]
   rw[DI s h1 (by simpa using e)]
  clear hw;go_enter func217,ntmps217;go_wp2_with fail;refine HC.mono ?_;rintro e w1⟨rfl,bT⟩;clear HC;go_wp2
  ·rename_i he;go_ret;exact⟨cH (H1.out he).symm,bT⟩
  ·rename_i he;go_ret;refine⟨cH ?_,bT⟩;by_cases h48:(s[0].toNat:Int)=48
   ·rw[H3.out h48 he];simp[he,h48]
   ·rw[H2.out h48];simp[h48]
theorem Io: ∀(l:List UInt8) (acc:Nat),od l=true-> ∃m:Nat,Lib.decFrom acc l=some m∧(m:Int)=l.foldl (fun n c=>10*n+((c.toNat:Int)-48)) (acc:Int)
 | [],acc,_=>⟨acc,rfl,rfl⟩
 |c::l,acc,h=>by
  unfold od at h;rw[List.all_cons,bm]at h;have hc:=h.1;unfold mV at hc;simp only[bm,decide_eq_true_eq]at hc;obtain⟨m,h1,h2⟩:=Io l (acc*10+(c.toNat-48)) h.2;refine⟨m, ?_, ?_⟩
  ·unfold Lib.decFrom;have:Lib.digitVal c=some (c.toNat-48):=by unfold Lib.digitVal;rw[if_pos (by omega)]
   rw[this];exact h1
  ·rw[h2,List.foldl_cons];congr 1;omega
theorem Mm{l:List UInt8}(h:(cM l).2=true):Lib.atoi l=some (cM l).1:=by
 unfold cM at h⊢;split at h
 ·rename_i hc;rw[if_pos hc];simp only[bm,decide_eq_true_eq]at hc;obtain⟨⟨⟨h1,_⟩,_⟩,h4⟩:=hc
  match l,h1,h4 with
  |c::r,_,h4=>
   obtain⟨m,e1,e2⟩:=Io (c::r) 0 h4;have hd:=h4;unfold od at hd;rw[List.all_cons,bm]at hd;have hc:=hd.1;unfold mV at hc;simp only[bm,decide_eq_true_eq]at hc;have n1:(c==45)=false:=by
    cases e:c==45 with
    |false=>rfl
    |true=>rw[beq_iff_eq]at e;rw[e]at hc;simp at hc
   have n2:(c==43)=false:=by
    cases e:c==43 with
    |false=>rfl
    |true=>rw[beq_iff_eq]at e;rw[e]at hc;simp at hc
   unfold Lib.atoi;dsimp only;rw[if_neg (by simp[n1]),if_neg (by simp[n2])];unfold Lib.decNat;rw[if_neg (by simp),e1];show some (m:Int)=_;rw[e2];rfl
 ·cases h
structure Ie where
 g:Nat
 lb:Array Value
 k:Nat
 p:List UInt8->Bool
 val:List UInt8->Value
structure Ie.ok(q:Nat)(f:Ie)(w:World):Prop where
 enter: ∀args w,(callFunc f.g args).run prog w= .ok (.enter f.g args) w
 says: ∀(s:ByteArray) (wr:World) (cs:Array Value),s.size<=4194304->Only (fun b=>b=q) w wr->wr.heap[q]?=some (.cells cs 149 (0,0))->cs.size=5->
  Calls prog f.g (#[.string s]++f.lb) wr fun e w'=>e= .returned (.bool (f.p s.data.toList))∧Only (fun b=>b=q) wr w'∧(f.p s.data.toList=true->w'.heap[q]?=some (.cells (cs.setIfInBounds f.k (f.val s.data.toList)) 149 (0,0)))
def cr:List Ie->List (List UInt8)->Bool
 | [], []=>true
 |f::fs,x::ws=>f.p x &&cr fs ws
 |_,_=>false
def ia:List Ie->List (List UInt8)->Array Value->Array Value
 |f::fs,x::ws,cs=>ia fs ws (cs.setIfInBounds f.k (f.val x))
 |_,_,cs=>cs
theorem FZ(f:Ie)(fs:List Ie)(x:List UInt8)(ws:List (List UInt8)):cr (f::fs) (x::ws)=(f.p x &&cr fs ws):=rfl
theorem K0(f:Ie)(fs:List Ie)(x:List UInt8)(ws:List (List UInt8))(cs:Array Value):ia (f::fs) (x::ws) cs=ia fs ws (cs.setIfInBounds f.k (f.val x)):=rfl
theorem fS{q:Nat}{w w':World}(h:Below w.heap.size w w'):Only (fun b=>b=q) w w':=⟨h.os,h.tape,h.output,h.size,fun k hk _=>h.block k hk⟩
theorem zV: ∀{fs:List Ie} {ws:List (List UInt8)},ws.length≠fs.length->cr fs ws=false
 | [], [],h=>absurd rfl h
 | [],_::_,_=>rfl
 |_::_, [],_=>rfl
 |f::fs,x::ws,h=>by unfold cr;rw[zV (fs:=fs) (ws:=ws) (fun e=>h (by simp[e])),Bool.and_false]
theorem IA(q:Nat)(ws:List (List UInt8))(fs:List Ie)(ao bo:Option Addr)(a b cap aan:Nat)(w:World)(cs:Array Value)(hf: ∀f∈fs,f.ok q w)(hq:w.heap[q]?=some (.cells cs 149 (0,0)))(hcs:cs.size=5)(bQ:0<ws.length->ao=some ⟨a,1,none⟩∧a<w.heap.size∧a≠q)(J9:0<fs.length->bo=some ⟨b,0,none⟩∧b<w.heap.size∧b≠q)(kS: ∀x∈ws,x.length<=4194304)(tE:fs.length<=3)(iA:ws.length<=4194304)(mC: ∀i (h:i<ws.length),w.cell? ⟨a,1+i,none⟩=some (.string ⟨(ws[i]'h).toArray⟩))(hck: ∀i (h:i<fs.length),w.cell? ⟨b,i,none⟩=some (.func (.func (fs[i]'h).g) #[] (fs[i]'h).lb)):Calls prog 176 #[.slice ao ws.length cap, .slice bo fs.length aan] w fun e w'=>e= .returned (.bool (cr fs ws))∧Only (fun b=>b=q) w w'∧(cr fs ws=true->w'.heap[q]?=some (.cells (ia fs ws cs) 149 (0,0))):=by
 by_cases hl:ws.length=fs.length
 ·obtain⟨n,hn⟩: ∃n,fs.length=n:=⟨_,rfl⟩;have Wi:ws.length=n:=hl.trans hn;rw[Wi,hn];rw[hn]at tE J9;rw[Wi]at bQ;have HW:Hid (∀f∈fs,f.ok q w):=hf;have HS:Hid (∀x∈ws,x.length<=4194304):=kS;have HCW:Hid (∀i (h:i<ws.length),w.cell? ⟨a,1+i,none⟩=some (.string ⟨(ws[i]'h).toArray⟩)):=mC;have HCK:Hid (∀i (h:i<fs.length),w.cell? ⟨b,i,none⟩=some (.func (.func (fs[i]'h).g) #[] (fs[i]'h).lb)):=hck;have X8:Hid (ws.length=n):=Wi;have AA:Hid (fs.length=n):=hn;have HQ:Hid (Only (fun b=>b=q) w w∧ ∃cs',w.heap[q]?=some (.cells cs' 149 (0,0))∧cs'.size=5∧cr fs ws=cr (fs.drop 0) (ws.drop 0)∧ia fs ws cs=ia (fs.drop 0) (ws.drop 0) cs'):=⟨Only.refl _ _,cs,hq,hcs,by simp,by simp⟩;clear hf kS mC hck hl hn Wi hq hcs;go_enter func176,ntmps176;go_wp2;go_loopw [14] (fun i wr=> ∃k:Nat,k<=n∧i= .int .i64 k∧Hid (Only (fun b=>b=q) w wr∧ ∃cs',wr.heap[q]?=some (.cells cs' 149 (0,0))∧cs'.size=5∧cr fs ws=cr (fs.drop k) (ws.drop k)∧ia fs ws cs=ia (fs.drop k) (ws.drop k) cs')) (fun i _=>n-(intOf i).toNat)
  case atStart=>exact⟨0,bh _,rfl,HQ⟩
  case round=>
   obtain⟨k,hk,rfl,HD⟩:=hrel;by_cases aN:k<n
   ·obtain⟨rfl,Y6,haq⟩:=bQ (by omega);obtain⟨rfl,lC,Y9⟩:=J9 (by omega);have IQ:k<ws.length:=by rw[X8.out];exact aN
    have lD:k<fs.length:=by rw[AA.out];exact aN
    obtain⟨ho,cs',Kt,Kf,e1,e2⟩:=HD.out;have c1:wr.cell? ⟨a,1+k,none⟩=some (.string ⟨(ws[k]'IQ).toArray⟩):=by have:=HCW.out k IQ;simp only[World.cell?,ho.block a Y6 haq]at this⊢;exact this
    have c2:wr.cell? ⟨b,k,none⟩=some (.func (.func (fs[k]'lD).g) #[] (fs[k]'lD).lb):=by have:=HCK.out k lD;simp only[World.cell?,ho.block b lC Y9]at this⊢;exact this
    have Gq:=HW.out _ (bS lD);have eg:=Gq.enter;have d1:fs.drop k=fs[k]::fs.drop (k+1):=(List.getElem_cons_drop (h:=lD)).symm;have d2:ws.drop k=ws[k]::ws.drop (k+1):=(List.getElem_cons_drop (h:=IQ)).symm;rw[d1,d2]at e1 e2;rw[FZ]at e1;rw[K0]at e2;have HSY:Hid (Calls prog (fs[k]'lD).g (#[.string ⟨(ws[k]'IQ).toArray⟩]++(fs[k]'lD).lb) wr fun e w'=>e= .returned (.bool ((fs[k]'lD).p (ws[k]'IQ)))∧Only (fun b=>b=q) wr w'∧((fs[k]'lD).p (ws[k]'IQ)=true->w'.heap[q]?=some (.cells (cs'.setIfInBounds (fs[k]'lD).k ((fs[k]'lD).val (ws[k]'IQ))) 149 (0,0)))):=
     Gq.says ⟨(ws[k]'IQ).toArray⟩ wr cs' (by simpa[ByteArray.size]using HS.out _ (bS IQ)) ho Kt Kf
    cases hp:(fs[k]'lD).p (ws[k]'IQ)
    ·have sV:Hid (cr fs ws=false∧Only (fun b=>b=q) w wr):=⟨by rw[e1,hp];rfl,ho⟩;rw[hp]at HSY;clear HCW HCK HW HS HD bQ J9 X8 AA ho Kt Kf e1 e2 d1 d2 Gq HQ hp;generalize(fs[k]'lD).g=g at*;generalize(fs[k]'lD).lb=lb at*;generalize(⟨(ws[k]'IQ).toArray⟩:ByteArray)=t at*;go_wp2_with (go_at_fn g;go_must(refine HSY.out.mono ?_;rintro e w1⟨rfl,ho1,_⟩));go_ret;exact⟨cH sV.out.1.symm,sV.out.2.trans ho1 (fun _ _ h=>h),fun h=>by rw[sV.out.1]at h;cases h⟩
    ·have HYE:Hid (∀w1,Only (fun b=>b=q) wr w1->w1.heap[q]?=some (.cells (cs'.setIfInBounds (fs[k]'lD).k ((fs[k]'lD).val (ws[k]'IQ))) 149 (0,0))->Hid (Only (fun b=>b=q) w w1∧ ∃cs',w1.heap[q]?=some (.cells cs' 149 (0,0))∧cs'.size=5∧cr fs ws=cr (fs.drop (k+1)) (ws.drop (k+1))∧ia fs ws cs=ia (fs.drop (k+1)) (ws.drop (k+1)) cs')):=fun w1 h1 h2=>⟨ho.trans h1 (fun _ _ h=>h),_,h2,by simpa using Kf,by rw[e1,hp,Bool.true_and],e2⟩;rw[hp]at HSY;clear HCW HCK HW HS HD bQ J9 X8 AA ho Kt Kf e1 e2 d1 d2 Gq HQ hp;generalize(cs'.setIfInBounds (fs[k]'lD).k ((fs[k]'lD).val (ws[k]'IQ)))=cs2 at*;generalize(fs[k]'lD).g=g at*;generalize(fs[k]'lD).lb=lb at*;generalize(⟨(ws[k]'IQ).toArray⟩:ByteArray)=t at*;go_wp2_with (go_at_fn g;go_must(refine HSY.out.mono ?_;rintro e w1⟨rfl,ho1,uZ⟩;have HI:=HYE.out w1 ho1 (uZ rfl);clear ho1 uZ));go_roundw
     case rel=>exact⟨k+1,by omega,by go_num,HI⟩
     case measure=>simp[intOf];omega
   ·obtain rfl:k=n:=by omega
    have HF:Hid (cr fs ws=true∧Only (fun b=>b=q) w wr∧wr.heap[q]?=some (.cells (ia fs ws cs) 149 (0,0))):=by obtain⟨ho,cs',Kt,Kf,e1,e2⟩:=HD.out;have d1:fs.drop k= []:=List.drop_eq_nil_of_le (by rw[AA.out];exact af _);have d2:ws.drop k= []:=List.drop_eq_nil_of_le (by rw[X8.out];exact af _);rw[d1,d2]at e1 e2;exact⟨e1,ho,by rw[e2];exact Kt⟩
    clear HCW HCK HW HS HD bQ J9 X8 AA HQ;go_wp2;go_ret;exact⟨cH HF.out.1.symm,HF.out.2.1,fun _=>HF.out.2.2⟩
 ·have cA:((ws.length:Int) !=fs.length)=true:=by rw[bne_iff_ne];omega
  have sV:Hid (cr fs ws=false):=zV hl;clear mC hck kS hf bQ J9 hq hcs hl;generalize BX:ws.length=n at*;generalize hm1:fs.length=m at*;clear BX hm1;go_enter func176,ntmps176;go_wp2;go_ret;exact⟨cH sV.out.symm,Only.refl _ _,fun h=>by rw[sV.out]at h;cases h⟩
end bG
namespace bG
open Go.RowKit
attribute [local go_sem] aG.ae aG.ag
variable{base q b k:Nat}{cg w:World}
def cG(b k:Nat):Ie:=⟨216, #[.pointer (some ⟨b,0,none⟩)],k,fun l=>(cM l).2,fun l=> .int .i64 (cM l).1⟩
def eV(b b2 k:Nat)(p:List UInt8->Bool):Ie:=⟨219, #[.pointer (some ⟨b,0,none⟩), .pointer (some ⟨b2,0,none⟩)],k,p,fun l=> .string ⟨l.toArray⟩⟩
theorem vR{wr:World}(hb:Below base cg w)(hq:base<=q)(hB:base<=w.heap.size)(h:Only (fun b=>b=q) w wr):Below base cg wr:=hb.trans (h.toBelow (fun _ hk=>hk▸hq) hB)
theorem jb(L:iP base cg)(hb:Below base cg w)(hB:base<=w.heap.size)(hq:base<=q)(Y9:b≠q)(lC:b<w.heap.size)(hk:k<5)(hc:w.cell? ⟨b,0,none⟩=some (.pointer (some ⟨q,k,none⟩))):(cG b k).ok q w:=by
 refine⟨enters_of func216 (by kernel_rfl) rfl,fun s wr cs hs ho gL hcs=> ?_⟩;have tC:=vR hb hq hB ho;have HN:=(Dg L).says s wr hs tC;have s5:q<wr.heap.size:=(cC.1 gL).1;have aaI:b<wr.heap.size:=bD lC ho.size;have hc':wr.cell? ⟨b,0,none⟩=some (.pointer (some ⟨q,k,none⟩)):=by simp only[World.cell?,ho.block b lC Y9]at hc⊢;exact hc
 show Calls prog 216 #[.string s, .pointer (some ⟨b,0,none⟩)] wr fun e w'=>e= .returned (.bool (cM s.data.toList).2)∧Only (fun b=>b=q) wr w'∧((cM s.data.toList).2=true->w'.heap[q]?=some (.cells (cs.setIfInBounds k (.int .i64 (cM s.data.toList).1)) 149 (0,0)));cases hn:(cM s.data.toList).2
 ·rw[hn]at HN;clear hc hc' gL;go_enter func216,ntmps216;go_wp2_with (first|(go_at_call 217;go_must(refine HN.mono ?_;rintro e w1⟨rfl,bT⟩)));go_ret;exact⟨rfl,fS bT,fun h=>by cases h⟩
 ·rw[hn]at HN;have dc:s.size<=6:=(sU (DJ hn)).2.1;have HA:Hid (∀w1,Calls prog 218 #[.string s] w1 fun e w'=>e= .returned (.tuple #[.int .i64 (cM s.data.toList).1, .nilIface])∧Below w1.heap.size w1 w'):=fun w1=>by
   refine(Any.strconv_Atoi atoi s (cM s.data.toList).1 (by omega) (Mm hn) w1).mono ?_;rintro e w'⟨rfl,t,rfl⟩;exact⟨rfl,Go.Joins.below_bytesWorld _ _ _ _ (af _)⟩
  have HC:Hid (∀w2,Below wr.heap.size wr w2->w2.cell? ⟨b,0,none⟩=some (.pointer (some ⟨q,k,none⟩))∧(∃y,w2.cell? ⟨q,k,none⟩=some y)∧w2.frozen? ⟨q,k,none⟩=false∧ ∀v,Only (fun b=>b=q) wr (w2.setCell ⟨q,k,none⟩ v)∧(w2.setCell ⟨q,k,none⟩ v).heap[q]?=some (.cells (cs.setIfInBounds k v) 149 (0,0))):=fun w2 h2=>by have ux:w2.heap[q]?=some (.cells cs 149 (0,0)):=(h2.block q s5).trans gL;refine⟨by rw[h2.cell (p:=⟨b,0,none⟩) aaI];exact hc',⟨cs[k]'(by omega), ?_⟩,by simp only[World.frozen?,ux];simp,fun v=>⟨(fS h2).setCell _ _ (fun _=>rfl),heap_setCell_same w2 q k cs _ v ux⟩⟩;simp only[World.cell?,ux];exact Array.getElem?_eq_getElem (by omega)
  generalize(cM s.data.toList).1=num at*;clear hc hc' gL hn hb tC;go_enter func216,ntmps216;go_wp2_with (first
   |(go_at_call 217;go_must(refine HN.mono ?_;rintro e w1⟨rfl,bT⟩))
   |(go_at_call 218;go_must(refine(HA.out _).mono ?_;rintro e w2⟨rfl,cZ⟩;obtain⟨c1,⟨y,c2⟩,f2,hset⟩:=HC.out w2 (bT.trans (cZ.mono bT.size));have Yi:=hset (.int .i64 num);have Uj:Hid (_∧_):=Yi;clear hset Yi)))
  go_ret;exact⟨rfl,Uj.out.1,fun _=>Uj.out.2⟩
theorem qV{b2:Nat}{p:List UInt8->Bool}{g:Nat}(S:Says base cg g p)(hb:Below base cg w)(hB:base<=w.heap.size)(hq:base<=q)(Y9:b≠q)(lC:b<w.heap.size)(Za:b2≠q)(J8:b2<w.heap.size)(hk:k<5)(hc:w.cell? ⟨b,0,none⟩=some (.pointer (some ⟨q,k,none⟩)))(Zb:w.cell? ⟨b2,0,none⟩=some (.func (.func g) #[] #[])):(eV b b2 k p).ok q w:=by
 refine⟨enters_of func219 (by kernel_rfl) rfl,fun s wr cs hs ho gL hcs=> ?_⟩;have s5:q<wr.heap.size:=(cC.1 gL).1;have d1:wr.cell? ⟨b,0,none⟩=some (.pointer (some ⟨q,k,none⟩)):=by simp only[World.cell?,ho.block b lC Y9]at hc⊢;exact hc
 have o1:Only (fun b=>b=q) wr (wr.setCell ⟨q,k,none⟩ (.string s)):=(Only.refl _ _).setCell _ _ (fun _=>rfl);have d2:(wr.setCell ⟨q,k,none⟩ (.string s)).cell? ⟨b2,0,none⟩=some (.func (.func g) #[] #[]):=by
  have h2:(wr.setCell ⟨q,k,none⟩ (.string s)).heap[b2]?=w.heap[b2]?:=by rw[o1.block b2 (bD J8 ho.size) Za,ho.block b2 J8 Za]
  simp only[World.cell?,h2]at Zb⊢;exact Zb
 have cq:wr.cell? ⟨q,k,none⟩=some (cs[k]'(by omega)):=by simp only[World.cell?,gL];exact Array.getElem?_eq_getElem (by omega)
 have fq:wr.frozen? ⟨q,k,none⟩=false:=by simp only[World.frozen?,gL];simp
 have uZ:=heap_setCell_same wr q k cs _ (.string s) gL;have tC:Below base cg (wr.setCell ⟨q,k,none⟩ (.string s)):=vR hb hq hB (ho.trans o1 (fun _ _ h=>h));have HM:Hid (Calls prog g #[.string s] (wr.setCell ⟨q,k,none⟩ (.string s)) fun e w'=>e= .returned (.bool (p s.data.toList))∧Below (wr.setCell ⟨q,k,none⟩ (.string s)).heap.size (wr.setCell ⟨q,k,none⟩ (.string s)) w'):=S.says s _ hs tC;have eg:=S.enter;have HF:Hid (∀w',Below (wr.setCell ⟨q,k,none⟩ (.string s)).heap.size (wr.setCell ⟨q,k,none⟩ (.string s)) w'->Only (fun b=>b=q) wr w'∧w'.heap[q]?=some (.cells (cs.setIfInBounds k (.string s)) 149 (0,0))):=fun w' h=>⟨o1.trans (fS h) (fun _ _ h=>h),(h.block q (by simpa[World.setCell]using s5)).trans uZ⟩;show Calls prog 219 #[.string s, .pointer (some ⟨b,0,none⟩), .pointer (some ⟨b2,0,none⟩)] wr fun e w'=>e= .returned (.bool (p s.data.toList))∧Only (fun b=>b=q) wr w'∧(p s.data.toList=true->w'.heap[q]?=some (.cells (cs.setIfInBounds k (.string s)) 149 (0,0)));generalize p s.data.toList=pb at*;clear hc Zb gL uZ tC o1 ho S hb;go_enter func219,ntmps219;go_wp2_with (first
  |(go_at_fn g;go_must(refine HM.out.mono ?_;rintro e w1⟨rfl,bT⟩;have Xf:=HF.out w1 bT;clear bT)))
 go_ret;exact⟨rfl,Xf.1,fun _=>Xf.2⟩
theorem DK(q k:Nat)(w:World):Calls prog 175 #[.pointer (some ⟨q,k,none⟩)] w fun e w'=>e= .returned (.func (.func 216) #[] #[.pointer (some ⟨w.heap.size,0,none⟩)])∧w'=w.alloc (.cells #[.pointer (some ⟨q,k,none⟩)] 236):=by go_enter func175,ntmps175;go_wp2;go_ret;exact⟨rfl,rfl⟩
theorem LH(q k g:Nat)(w:World):Calls prog 177 #[.pointer (some ⟨q,k,none⟩), .func (.func g) #[] #[]] w fun e w'=>e= .returned (.func (.func 219) #[] #[.pointer (some ⟨w.heap.size,0,none⟩), .pointer (some ⟨w.heap.size+1,0,none⟩)])∧w'=(w.alloc (.cells #[.pointer (some ⟨q,k,none⟩)] 239)).alloc (.cells #[.func (.func g) #[] #[]] 116):=by go_enter func177,ntmps177;go_wp2;go_ret;exact⟨by simp,rfl⟩
variable{q:Nat}
def cs0(k:List UInt8):Array Value:= #[.string ⟨k.toArray⟩, .int .i64 0, .int .i64 0, .string ⟨#[]⟩, .string ⟨#[]⟩]
theorem H9(r:List (List UInt8)):(a6 ([112,117,108,108]::r)).2=cr [] r∧(cr [] r=true->ia [] r (cs0 [112,117,108,108])=(a6 ([112,117,108,108]::r)).1.cs):=by
 rcases r with _|⟨a,_|⟨b,_|⟨c,_|⟨d,r⟩⟩⟩⟩
 all_goals simp[a6,cr,ia,eY,eX,cU,gW,kFail,bO,fT,Mg.cs,cs0]
theorem H6(r:List (List UInt8)):(a6 ([98,101,97,116]::r)).2=cr [] r∧(cr [] r=true->ia [] r (cs0 [98,101,97,116])=(a6 ([98,101,97,116]::r)).1.cs):=by
 rcases r with _|⟨a,_|⟨b,_|⟨c,_|⟨d,r⟩⟩⟩⟩
 all_goals simp[a6,cr,ia,eY,eX,cU,gW,kFail,bO,fT,Mg.cs,cs0]
theorem Ep(r:List (List UInt8)):(a6 ([100,114,97,105,110]::r)).2=cr [] r∧(cr [] r=true->ia [] r (cs0 [100,114,97,105,110])=(a6 ([100,114,97,105,110]::r)).1.cs):=by
 rcases r with _|⟨a,_|⟨b,_|⟨c,_|⟨d,r⟩⟩⟩⟩
 all_goals simp[a6,cr,ia,eY,eX,cU,gW,kFail,bO,fT,Mg.cs,cs0]
theorem LI(N1:Nat)(r:List (List UInt8)):(a6 ([99,97,110]::r)).2=cr [cG N1 1] r∧(cr [cG N1 1] r=true->ia [cG N1 1] r (cs0 [99,97,110])=(a6 ([99,97,110]::r)).1.cs):=by
 rcases r with _|⟨a,_|⟨b,_|⟨c,_|⟨d,r⟩⟩⟩⟩
 all_goals simp[a6,cr,ia,eY,eX,cU,gW,kFail,bO,fT,cG,Mg.cs,cs0]
theorem H8(N1 N2:Nat)(r:List (List UInt8)):(a6 ([102,97,105,108]::r)).2=cr [cG N1 1,cG N2 2] r∧(cr [cG N1 1,cG N2 2] r=true->ia [cG N1 1,cG N2 2] r (cs0 [102,97,105,108])=(a6 ([102,97,105,108]::r)).1.cs):=by
 rcases r with _|⟨a,_|⟨b,_|⟨c,_|⟨d,r⟩⟩⟩⟩
 all_goals simp[a6,cr,ia,eY,eX,cU,gW,kFail,bO,fT,cG,Mg.cs,cs0]
theorem LJ(N1 B1 B2 B3 B4:Nat)(r:List (List UInt8)):(a6 ([115,117,98]::r)).2=cr [cG N1 1,eV B1 B2 3 tV,eV B3 B4 4 mh] r∧(cr [cG N1 1,eV B1 B2 3 tV,eV B3 B4 4 mh] r=true->ia [cG N1 1,eV B1 B2 3 tV,eV B3 B4 4 mh] r (cs0 [115,117,98])=(a6 ([115,117,98]::r)).1.cs):=by
 rcases r with _|⟨a,_|⟨b,_|⟨c,_|⟨d,r⟩⟩⟩⟩
 all_goals simp[a6,cr,ia,eY,eX,cU,gW,kFail,bO,fT,cG,eV,Bool.and_assoc,Mg.cs,cs0]
theorem H7(N1 N2 B1 B2:Nat)(r:List (List UInt8)):(a6 ([100,111,110,101]::r)).2=cr [cG N1 1,cG N2 2,eV B1 B2 4 mh] r∧(cr [cG N1 1,cG N2 2,eV B1 B2 4 mh] r=true->ia [cG N1 1,cG N2 2,eV B1 B2 4 mh] r (cs0 [100,111,110,101])=(a6 ([100,111,110,101]::r)).1.cs):=by
 rcases r with _|⟨a,_|⟨b,_|⟨c,_|⟨d,r⟩⟩⟩⟩
 all_goals simp[a6,cr,ia,eY,eX,cU,gW,kFail,bO,cG,eV,Bool.and_assoc,Mg.cs,cs0]
theorem Er{k:List UInt8}(h0:(k== [112,117,108,108])=false)(h1:(k== [98,101,97,116])=false)(h2:(k== [100,114,97,105,110])=false)(h3:(k== [99,97,110])=false)(h4:(k== [102,97,105,108])=false)(h5:(k== [115,117,98])=false)(h6:(k== [100,111,110,101])=false)(r:List (List UInt8)):(a6 (k::r)).2=false:=by
 have e:k≠ [112,117,108,108]∧k≠ [98,101,97,116]∧k≠ [100,114,97,105,110]∧k≠ [99,97,110]∧k≠ [102,97,105,108]∧k≠ [115,117,98]∧k≠ [100,111,110,101]:=⟨by simpa using h0,by simpa using h1,by simpa using h2,by simpa using h3,by simpa using h4,by simpa using h5,by simpa using h6⟩;obtain⟨e0,e1,e2,e3,e4,e5,e6⟩:=e;rcases r with _|⟨a,_|⟨b,_|⟨c,_|⟨d,r⟩⟩⟩⟩
 all_goals simp[a6,eY,eX,cU,gW,kFail,bO,fT,e0,e1,e2,e3,e4,e5,e6]
def fvs(fs:List Ie):Array Value:=(fs.map fun f=>Value.func (.func f.g) #[] f.lb).toArray
theorem A5(W:World)(r:List (List UInt8))(fs:List Ie)(ao:Option Addr)(a cap:Nat)(cs:Array Value)(hq:W.heap[q]?=some (.cells cs 149 (0,0)))(hcs:cs.size=5)(hf: ∀f∈fs,f.ok q (W.alloc (.cells (fvs fs) 234)))(bQ:0<r.length->ao=some ⟨a,1,none⟩∧a<W.heap.size∧a≠q)(kS: ∀x∈r,x.length<=4194304)(iA:r.length<=4194304)(tE:fs.length<=3)(mC: ∀i (h:i<r.length),W.cell? ⟨a,1+i,none⟩=some (.string ⟨(r[i]'h).toArray⟩)):Calls prog 176 #[.slice ao r.length cap, .slice (some ⟨W.heap.size,0,none⟩) fs.length fs.length] (W.alloc (.cells (fvs fs) 234)) fun e w'=>e= .returned (.bool (cr fs r))∧Only (fun b=>b=q) W w'∧(cr fs r=true->w'.heap[q]?=some (.cells (ia fs r cs) 149 (0,0))):=by
 have s5:q<W.heap.size:=(cC.1 hq).1;have hb:Below W.heap.size W (W.alloc (.cells (fvs fs) 234)):=(au _ _).alloc (af _) _;refine(IA q r fs ao (some ⟨W.heap.size,0,none⟩) a W.heap.size cap fs.length _ cs hf ((hb.block q s5).trans hq) hcs (fun h=> ?_) (fun _=>⟨rfl,by simp,by omega⟩) kS tE iA (fun i h=> ?_) (fun i h=> ?_)).mono ?_
 ·obtain⟨h1,h2,h3⟩:=bQ h;exact⟨h1,by simp;omega,h3⟩
 ·obtain⟨h1,h2,h3⟩:=bQ (by omega);rw[hb.cell (p:=⟨a,1+i,none⟩) h2];exact mC i h
 ·simp only[World.cell?,heap_alloc_new];show(fvs fs)[i]?=_;unfold fvs;simp[h]
 ·rintro e w'⟨rfl,ho,hp⟩;exact⟨rfl,(fS hb).trans ho (fun _ _ h=>h),hp⟩
theorem A6(W:World)(r:List (List UInt8))(ao:Option Addr)(a cap:Nat)(cs:Array Value)(hq:W.heap[q]?=some (.cells cs 149 (0,0)))(hcs:cs.size=5)(bQ:0<r.length->ao=some ⟨a,1,none⟩∧a<W.heap.size∧a≠q)(kS: ∀x∈r,x.length<=4194304)(iA:r.length<=4194304)(mC: ∀i (h:i<r.length),W.cell? ⟨a,1+i,none⟩=some (.string ⟨(r[i]'h).toArray⟩)):Calls prog 176 #[.slice ao r.length cap, .slice none 0 0] W fun e w'=>e= .returned (.bool (cr [] r))∧Only (fun b=>b=q) W w'∧(cr [] r=true->w'.heap[q]?=some (.cells (ia [] r cs) 149 (0,0))):=
 IA q r [] ao none a 0 cap 0 W cs (fun f hf=>by cases hf) hq hcs bQ (fun h=>absurd h (by simp)) kS (by simp) iA mC (fun i h=>absurd h (by simp))
theorem cL{w w':World}(h:Below w.drew.heap.size w.drew w'):Below w.heap.size w w':=⟨h.os,h.tape,h.output,h.size,h.block⟩
def qX(q:Nat)(k:List UInt8)(r:List (List UInt8))(w:World)(e:Ending)(w':World):Prop:=e= .returned (.bool (a6 (k::r)).2)∧Only (fun b=>b=q) w w'∧((a6 (k::r)).2=true->w'.heap[q]?=some (.cells (a6 (k::r)).1.cs 149 (0,0)))
theorem kz(q k:Nat)(w:World):Calls prog 175 #[.pointer (some ⟨q,k,none⟩)] w fun e w'=> ∃N,e= .returned (.func (.func 216) #[] #[.pointer (some ⟨N,0,none⟩)])∧w.heap.size<=N∧N<w'.heap.size∧Below w.heap.size w w'∧w'.cell? ⟨N,0,none⟩=some (.pointer (some ⟨q,k,none⟩)):=by refine(DK q k w).mono ?_;rintro e w'⟨rfl,rfl⟩;exact⟨_,rfl,af _,by simp,(au _ _).alloc (af _) _,by simp only[World.cell?,heap_alloc_new];rfl⟩
theorem U0(q k g:Nat)(w:World):Calls prog 177 #[.pointer (some ⟨q,k,none⟩), .func (.func g) #[] #[]] w fun e w'=> ∃B1 B2,e= .returned (.func (.func 219) #[] #[.pointer (some ⟨B1,0,none⟩), .pointer (some ⟨B2,0,none⟩)])∧w.heap.size<=B1∧B1<w'.heap.size∧w.heap.size<=B2∧B2<w'.heap.size∧Below w.heap.size w w'∧w'.cell? ⟨B1,0,none⟩=some (.pointer (some ⟨q,k,none⟩))∧w'.cell? ⟨B2,0,none⟩=some (.func (.func g) #[] #[]):=by
 refine(LH q k g w).mono ?_;rintro e w'⟨rfl,rfl⟩;have bT:Below w.heap.size w (w.alloc (.cells #[.pointer (some ⟨q,k,none⟩)] 239)):=(au _ _).alloc (af _) _;have jJ:(w.alloc (.cells #[.pointer (some ⟨q,k,none⟩)] 239)).heap.size=w.heap.size+1:=by simp
 have cZ:=(au (w.heap.size+1) (w.alloc (.cells #[.pointer (some ⟨q,k,none⟩)] 239))).alloc (by omega) (.cells #[.func (.func g) #[] #[]] 116);refine⟨w.heap.size,w.heap.size+1,rfl,af _,by simp;omega,by omega,by simp,bT.alloc (by omega) _, ?_, ?_⟩
 ·rw[cZ.cell (p:=⟨w.heap.size,0,none⟩) (by show w.heap.size<w.heap.size+1;omega)];simp only[World.cell?,heap_alloc_new];rfl
 ·rw[<-jJ];simp only[World.cell?,heap_alloc_new];rfl
variable{base:Nat}{cg:World}
theorem QW(L:iP base cg)(q:Nat)(k:List UInt8)(r:List (List UInt8))(ao:Option Addr)(a cap:Nat)(w:World)(hb:Below base cg w)(hB:base<=w.heap.size)(Aa:base<=q)(gL:w.heap[q]?=some (.cells (cs0 k) 149 (0,0)))(bQ:0<r.length->ao=some ⟨a,1,none⟩∧a<w.heap.size∧a≠q)(kS: ∀x∈r,x.length<=4194304)(iA:r.length<=4194304)(mC: ∀i (h:i<r.length),w.cell? ⟨a,1+i,none⟩=some (.string ⟨(r[i]'h).toArray⟩))(h0:(k== [112,117,108,108])=false)(h1:(k== [98,101,97,116])=false)(h2:(k== [100,114,97,105,110])=false)(hv:(k== [99,97,110])=true):Calls prog 134 #[.pointer (some ⟨q,0,none⟩), .slice ao r.length cap] w (qX q k r w):=by
 have s5:q<w.heap.size:=(cC.1 gL).1;have sW:Hid (∀k w1,_):=fun k w1=>kz q k w1;have HK:Hid (∀W,Below w.heap.size w W->W.cell? ⟨q,0,none⟩=some (.string ⟨k.toArray⟩)):=fun W h=>by rw[h.cell (p:=⟨q,0,none⟩) s5];simp only[World.cell?,gL];rfl
 have hk:k= [99,97,110]:=by simpa using hv
 have HF:Hid (∀W N1,Below w.heap.size w W->w.heap.size<=N1∧N1<W.heap.size->W.cell? ⟨N1,0,none⟩=some (.pointer (some ⟨q,1,none⟩))-> ∀nq,Calls prog 176 #[.slice ao r.length cap, .slice (some ⟨W.heap.size,0,none⟩) 1 1] ((W.drewN nq).alloc (.cells #[.func (.func 216) #[] #[.pointer (some ⟨N1,0,none⟩)]] 234)) fun e w'=>e= .returned (.bool (a6 (k::r)).2)∧Hid (Only (fun b=>b=q) w w'∧((a6 (k::r)).2=true->w'.heap[q]?=some (.cells (a6 (k::r)).1.cs 149 (0,0))))):=fun W0 N1 h0 pG sX nq=>by
  obtain⟨W,eW⟩: ∃W,W0.drewN nq=W:=⟨_,rfl⟩;have es:W.heap.size=W0.heap.size:=by rw[<-eW];rfl
  have ec: ∀p,W.cell? p=W0.cell? p:=fun p=>by rw[<-eW];rfl
  have h:Below w.heap.size w W:=by rw[<-eW];exact⟨h0.os,h0.tape,h0.output,h0.size,h0.block⟩
  rw[eW,<-es];rw[<-es]at pG;rw[<-ec]at sX;have HW:=LI N1 r;have rH:Below W.heap.size W (W.alloc (.cells #[.func (.func 216) #[] #[.pointer (some ⟨N1,0,none⟩)]] 234)):=(au _ _).alloc (af _) _;have Nt:base<=W.heap.size:=ar hB h.size;have LQ:Below base cg (W.alloc (.cells #[.func (.func 216) #[] #[.pointer (some ⟨N1,0,none⟩)]] 234)):=(hb.trans (h.mono hB)).alloc Nt _;have LO:base<=(W.alloc (.cells #[.func (.func 216) #[] #[.pointer (some ⟨N1,0,none⟩)]] 234)).heap.size:=ar Nt rH.size;have aN: ∀n,n<W.heap.size->n<(W.alloc (.cells #[.func (.func 216) #[] #[.pointer (some ⟨N1,0,none⟩)]] 234)).heap.size:=fun n hn=>bD hn rH.size;refine(A5 W r [cG N1 1] ao a cap (cs0 k) ((h.block q s5).trans gL) rfl (fun f hf=> ?_) (fun h0=> ?_) kS iA (by simp) (fun i hi=> ?_)).mono ?_
  ·simp only[List.mem_cons,List.not_mem_nil,or_false]at hf;subst hf
   ·exact jb L LQ LO Aa (by omega) (aN _ pG.2) (by omega) ((rH.cell (p:=⟨N1,0,none⟩) pG.2).trans sX)
  ·obtain⟨h1,h2,h3⟩:=bQ h0;exact⟨h1,bD h2 h.size,h3⟩
  ·rw[h.cell (p:=⟨a,1+i,none⟩) (bQ (by omega)).2.1];exact mC i hi
  ·rintro e w'⟨rfl,ho,hp⟩;rw[hk]at hp⊢;exact⟨by rw[HW.1],(fS h).trans ho (fun _ _ h=>h),fun h=>by rw[HW.1]at h;rw[<-HW.2 h];exact hp h⟩
 clear gL bQ kS mC L hk hb;generalize nJ:r.length=rl at*;clear nJ;have M1:True:=trivial;go_enter func134,ntmps134;go_wp2_with fail;go_region_held3 (fun _=>True) (trivial)
  (first
   |(go_at_call 175;first
     |(clear M1;go_must(refine(sW.out _ _).mono ?_;rintro e w1⟨N1,rfl,EE,Ag,bT,sX⟩))
     |(go_must(refine(sW.out _ _).mono ?_;rintro e w2⟨N2,rfl,EF,EG,cZ,zm⟩))))
 all_goals
  have fN:=cL bT;have j9:Below w1.heap.size w1 w2:=by first|exact cZ|exact cL cZ
  have HB:Below w.heap.size w w2:=fN.trans (j9.mono fN.size);have c0:=HK.out w2 HB;have pG:w.heap.size<=N1∧N1<w2.heap.size:=⟨EE,bD Ag j9.size⟩;have vT:w2.cell? ⟨N1,0,none⟩=some (.pointer (some ⟨q,1,none⟩)):=by rw[j9.cell (p:=⟨N1,0,none⟩) Ag];exact sX
  have Bn:w.heap.size<=N2∧N2<w2.heap.size:=⟨ar fN.size EF,EG⟩;have Eu:Hid (Calls _ _ _ _ _):=HF.out w2 _ HB pG vT 0;clear HF sW HK bT cZ fN j9 sX vT zm HB EE Ag EF EG pG Bn;go_wp2_with (first
   |(go_at_call 176;go_must(refine Eu.out.mono ?_;rintro e w3⟨rfl,HP⟩)))
  go_ret;exact⟨rfl,HP.out⟩
theorem Lt(L:iP base cg)(q:Nat)(k:List UInt8)(r:List (List UInt8))(ao:Option Addr)(a cap:Nat)(w:World)(hb:Below base cg w)(hB:base<=w.heap.size)(Aa:base<=q)(gL:w.heap[q]?=some (.cells (cs0 k) 149 (0,0)))(bQ:0<r.length->ao=some ⟨a,1,none⟩∧a<w.heap.size∧a≠q)(kS: ∀x∈r,x.length<=4194304)(iA:r.length<=4194304)(mC: ∀i (h:i<r.length),w.cell? ⟨a,1+i,none⟩=some (.string ⟨(r[i]'h).toArray⟩))(h0:(k== [112,117,108,108])=false)(h1:(k== [98,101,97,116])=false)(h2:(k== [100,114,97,105,110])=false)(h3:(k== [99,97,110])=false)(hv:(k== [102,97,105,108])=true):Calls prog 134 #[.pointer (some ⟨q,0,none⟩), .slice ao r.length cap] w (qX q k r w):=by
 have s5:q<w.heap.size:=(cC.1 gL).1;have sW:Hid (∀k w1,_):=fun k w1=>kz q k w1;have HK:Hid (∀W,Below w.heap.size w W->W.cell? ⟨q,0,none⟩=some (.string ⟨k.toArray⟩)):=fun W h=>by rw[h.cell (p:=⟨q,0,none⟩) s5];simp only[World.cell?,gL];rfl
 have hk:k= [102,97,105,108]:=by simpa using hv
 have HF:Hid (∀W N1 N2,Below w.heap.size w W->w.heap.size<=N1∧N1<W.heap.size->w.heap.size<=N2∧N2<W.heap.size->W.cell? ⟨N1,0,none⟩=some (.pointer (some ⟨q,1,none⟩))->W.cell? ⟨N2,0,none⟩=some (.pointer (some ⟨q,2,none⟩))-> ∀nq,Calls prog 176 #[.slice ao r.length cap, .slice (some ⟨W.heap.size,0,none⟩) 2 2] ((W.drewN nq).alloc (.cells #[.func (.func 216) #[] #[.pointer (some ⟨N1,0,none⟩)], .func (.func 216) #[] #[.pointer (some ⟨N2,0,none⟩)]] 234)) fun e w'=>e= .returned (.bool (a6 (k::r)).2)∧Hid (Only (fun b=>b=q) w w'∧((a6 (k::r)).2=true->w'.heap[q]?=some (.cells (a6 (k::r)).1.cs 149 (0,0))))):=fun W0 N1 N2 h0 pG Bn sX zm nq=>by
  obtain⟨W,eW⟩: ∃W,W0.drewN nq=W:=⟨_,rfl⟩;have es:W.heap.size=W0.heap.size:=by rw[<-eW];rfl
  have ec: ∀p,W.cell? p=W0.cell? p:=fun p=>by rw[<-eW];rfl
  have h:Below w.heap.size w W:=by rw[<-eW];exact⟨h0.os,h0.tape,h0.output,h0.size,h0.block⟩
  rw[eW,<-es];rw[<-es]at pG Bn;rw[<-ec]at sX zm;have HW:=H8 N1 N2 r;have rH:Below W.heap.size W (W.alloc (.cells #[.func (.func 216) #[] #[.pointer (some ⟨N1,0,none⟩)], .func (.func 216) #[] #[.pointer (some ⟨N2,0,none⟩)]] 234)):=(au _ _).alloc (af _) _;have Nt:base<=W.heap.size:=ar hB h.size;have LQ:Below base cg (W.alloc (.cells #[.func (.func 216) #[] #[.pointer (some ⟨N1,0,none⟩)], .func (.func 216) #[] #[.pointer (some ⟨N2,0,none⟩)]] 234)):=(hb.trans (h.mono hB)).alloc Nt _;have LO:base<=(W.alloc (.cells #[.func (.func 216) #[] #[.pointer (some ⟨N1,0,none⟩)], .func (.func 216) #[] #[.pointer (some ⟨N2,0,none⟩)]] 234)).heap.size:=ar Nt rH.size;have aN: ∀n,n<W.heap.size->n<(W.alloc (.cells #[.func (.func 216) #[] #[.pointer (some ⟨N1,0,none⟩)], .func (.func 216) #[] #[.pointer (some ⟨N2,0,none⟩)]] 234)).heap.size:=fun n hn=>bD hn rH.size;refine(A5 W r [cG N1 1,cG N2 2] ao a cap (cs0 k) ((h.block q s5).trans gL) rfl (fun f hf=> ?_) (fun h0=> ?_) kS iA (by simp) (fun i hi=> ?_)).mono ?_
  ·simp only[List.mem_cons,List.not_mem_nil,or_false]at hf;rcases hf with rfl|rfl
   ·exact jb L LQ LO Aa (by omega) (aN _ pG.2) (by omega) ((rH.cell (p:=⟨N1,0,none⟩) pG.2).trans sX)
   ·exact jb L LQ LO Aa (by omega) (aN _ Bn.2) (by omega) ((rH.cell (p:=⟨N2,0,none⟩) Bn.2).trans zm)
  ·obtain⟨h1,h2,h3⟩:=bQ h0;exact⟨h1,bD h2 h.size,h3⟩
  ·rw[h.cell (p:=⟨a,1+i,none⟩) (bQ (by omega)).2.1];exact mC i hi
  ·rintro e w'⟨rfl,ho,hp⟩;rw[hk]at hp⊢;exact⟨by rw[HW.1],(fS h).trans ho (fun _ _ h=>h),fun h=>by rw[HW.1]at h;rw[<-HW.2 h];exact hp h⟩
 clear gL bQ kS mC L hk hb;generalize nJ:r.length=rl at*;clear nJ;have M1:True:=trivial;go_enter func134,ntmps134;go_wp2_with fail;go_region_held3 (fun _=>True) (trivial)
  (first
   |(go_at_call 175;first
     |(clear M1;go_must(refine(sW.out _ _).mono ?_;rintro e w1⟨N1,rfl,EE,Ag,bT,sX⟩))
     |(go_must(refine(sW.out _ _).mono ?_;rintro e w2⟨N2,rfl,EF,EG,cZ,zm⟩))))
 all_goals
  have fN:=cL bT;have j9:Below w1.heap.size w1 w2:=by first|exact cZ|exact cL cZ
  have HB:Below w.heap.size w w2:=fN.trans (j9.mono fN.size);have c0:=HK.out w2 HB;have pG:w.heap.size<=N1∧N1<w2.heap.size:=⟨EE,bD Ag j9.size⟩;have vT:w2.cell? ⟨N1,0,none⟩=some (.pointer (some ⟨q,1,none⟩)):=by rw[j9.cell (p:=⟨N1,0,none⟩) Ag];exact sX
  have Bn:w.heap.size<=N2∧N2<w2.heap.size:=⟨ar fN.size EF,EG⟩;have Eu:Hid (Calls _ _ _ _ _):=HF.out w2 _ _ HB pG Bn vT zm 0;clear HF sW HK bT cZ fN j9 sX vT zm HB EE Ag EF EG pG Bn;go_wp2_with (first
   |(go_at_call 176;go_must(refine Eu.out.mono ?_;rintro e w3⟨rfl,HP⟩)))
  go_ret;exact⟨rfl,HP.out⟩
end bG
namespace Mr
open Go.RowKit aJ Mc
attribute [local go_sem] aG.ae aG.ag
variable{wr:World}
theorem pQ{cur w4:World}(h:Below wr.heap.size wr cur)(yZ:Below cur.heap.size cur w4):Below wr.heap.size wr w4:=h.trans (yZ.mono h.size)
structure vJ(p:Nat)(s:St)(id:Int)(w:World)(F:Ft)(s':St)(wr:World):Prop where
 st:St.dp s s' id
 sz:s'.sz<=s.sz
 goes:Goes (KJ p s') w F wr
 rest: ∃f,s'.ah.length<=f∧St.stops s.ah.length s id=St.stops f s' id
theorem vJ.next{p:Nat}{s s':St}{id:Int}{w:World}{F:Ft}{w2:World}(h:vJ p s id w F s' wr){i:Nat}{a:At}(hi:s'.ah.findIdx? (·.id==id)=some i)(ha:s'.ah[i]?=some a)(hg:Goes (KJ p ((s'.say a.conn (St.aU id a.n)).aZ i)) w F w2):vJ p s id w F ((s'.say a.conn (St.aU id a.n)).aZ i) w2:=by
 obtain⟨f,hf,e⟩:=h.rest;have hlen:=St.iV ha;have h2:=St.lO (s:=s'.say a.conn (St.aU id a.n)) ha;rw[St.fB]at h2;refine⟨h.st.trans (St.Ef s' id _ _ _),by have:=h.sz;omega,hg, ?_⟩
 match f,hf,e with
 |0,hf,_=>omega
 |f+1,hf,e=>
  refine⟨f, ?_, ?_⟩
  ·rw[(St.dD (s:=s'.say a.conn (St.aU id a.n)) i).2.1];show(s'.ah.eraseIdx i).length<=f;omega
  ·rw[e];conv=>lhs;unfold St.stops
   rw[hi];dsimp only;rw[ha]
