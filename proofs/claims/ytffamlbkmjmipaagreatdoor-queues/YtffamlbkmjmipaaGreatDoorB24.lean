import Derived.Test.YtffamlbkmjmipaaGreatDoorB06
import Derived.Test.YtffamlbkmjmipaaGreatDoorB17
import Derived.Test.YtffamlbkmjmipaaGreatDoorB22
import Derived.Test.YtffamlbkmjmipaaGreatDoorB23
import Derived.Lib.SmallJoins
import Derived.Lib.Atoi
set_option maxHeartbeats 8000000
set_option maxRecDepth 100000
namespace Go.Proofs.YtffamlbkmjmipaaGreatDoor
open _root_.Go.Proofs.Tryz
namespace bJ
open Go.RowKit
variable{s:ByteArray}
theorem My{l:List UInt8}{i n:Nat}{c:Int}(h:dH l i=some (c,n))(hc:c<128):n=1∧c=byteAt l i:=by
 have hb:=uR l i;have hb1:=uR l (i+1);have bN:=uR l (i+2);unfold dH at h;by_cases h1:byteAt l i<128
 ·rw[if_pos h1]at h;have e:=Option.some.inj h;exact⟨(Prod.mk.inj e).2.symm,(Prod.mk.inj e).1.symm⟩
 rw[if_neg h1]at h;by_cases h2:194<=byteAt l i∧byteAt l i<224
 ·rw[if_pos h2]at h;split at h
  ·have e:=(Prod.mk.inj (Option.some.inj h)).1;unfold two' at e;omega
  ·cases h
 rw[if_neg h2]at h;by_cases h3:224<=byteAt l i∧byteAt l i<240
 ·rw[if_pos h3]at h;split at h
  ·rename_i hh;have e:=(Prod.mk.inj (Option.some.inj h)).1;have:=hh.2.2.2;omega
  ·cases h
 rw[if_neg h3]at h;cases h
theorem EL{l:List UInt8}: ∀(f i:Nat) (xs:List Int),fD (dH l) l.length f i=some xs->xs.all kz=true->i<=l.length->xs.length=l.length-i∧ ∀j,i<=j->j<l.length->kz (byteAt l j)=true
 |f,i,xs,h,ha,hi=>by
  by_cases hl:i<l.length
  ·cases hn:dH l i with
   |none=>rw[sL f i hl hn]at h;cases h
   |some r=>
    obtain⟨c,n⟩:=r
    match f,h with
    |0,h=>simp[fD,hl]at h
    |f+1,h=>
     rw[oN f i n c hl hn]at h;cases hr:fD (dH l) l.length f (i+n)with
     |none=>rw[hr]at h;cases h
     |some ys=>
      rw[hr]at h;have e:xs=c::ys:=(Option.some.inj h).symm;subst e;rw[List.all_cons,bZ]at ha;have hc:48<=c∧c<=57:=by have:=ha.1;unfold kz at this;simpa using this
      obtain⟨rfl,hcb⟩:=My hn (by omega);obtain⟨h1,h2⟩:=EL f (i+1) ys hr ha.2 (by omega);refine⟨by rw[List.length_cons,h1];omega,fun j hj eP=> ?_⟩;rcases Nat.lt_or_ge i j with h'|h'
      ·exact h2 j (by omega) eP
      ·obtain rfl:j=i:=by omega
       rw[<-hcb];exact ha.1
  ·rw[qT f i hl]at h;have e:xs= []:=(Option.some.inj h).symm;subst e;exact⟨by simp;omega,fun j hj eP=>by omega⟩
theorem uE(h:iG kz 6 s.data.toList=true):1<=s.size∧s.size<=6∧nA s.data.toList=true:=by
 unfold iG at h;split at h
 ·rename_i xs hx;simp only[bZ,decide_eq_true_eq]at h;obtain⟨h1,h2⟩:=EL _ 0 xs hx h.1.1 (aJ _);rw[slen]at h1;refine⟨by omega,by omega, ?_⟩;unfold nA;rw[List.all_eq_true];intro c hc;obtain⟨j,hj,rfl⟩:=List.getElem_of_mem hc;have:=h2 j (aJ _) hj;unfold byteAt at this;rw[a7 hj]at this;exact this
 ·cases h
theorem QG(h:iG kz 6 s.data.toList=true)(h': ¬(1<s.size∧((s[0]'(by have:=uE h;omega)).toNat:Int)=48)):(cF s.data.toList).2=true:=by obtain⟨h1,h2,h3⟩:=uE h;rw[Cv s h1 h2 (fun e=>h' ⟨e.1,by have:=e.2;rw[beq_iff_eq]at this;exact this⟩) h3]
variable{base:Nat}{dz:World}{l:List UInt8}
structure Says(base:Nat)(dz:World)(g:Nat)(p:List UInt8->Bool):Prop where
 enter: ∀args w,(callFunc g args).run prog w= .ok (.enter g args) w
 says: ∀(s:ByteArray) (w:World),s.size<=4194304->Below base dz w->Calls prog g #[.string s] w fun e w'=>e= .returned (.bool (p s.data.toList))∧Below w.heap.size w w'
theorem Et(L:kE base dz):Says base dz 178 ux:=by refine⟨enters_of func178 (by kernel_rfl) rfl,fun s w hs hb=> ?_⟩;have HC:Calls _ _ _ _ fun e w'=>e= .returned (.bool (ux s.data.toList))∧Below w.heap.size w w':=pT L _ iZ qg s 6 w hs hb;generalize ux s.data.toList=b at*;go_enter func178,ntmps178;go_wp2_with fail;refine HC.mono ?_;rintro e w1⟨rfl,hb1⟩;go_wp2;go_ret;exact⟨rfl,hb1⟩
theorem tT(L:kE base dz):Says base dz 179 m6:=by refine⟨enters_of func179 (by kernel_rfl) rfl,fun s w hs hb=> ?_⟩;have HC:Calls _ _ _ _ fun e w'=>e= .returned (.bool (m6 s.data.toList))∧Below w.heap.size w w':=pT L _ ja sJ s 12 w hs hb;generalize m6 s.data.toList=b at*;go_enter func179,ntmps179;go_wp2_with fail;refine HC.mono ?_;rintro e w1⟨rfl,hb1⟩;go_wp2;go_ret;exact⟨rfl,hb1⟩
theorem Qk(h: ∀i,i<l.length->byteAt l i<128): ∀(f i:Nat),l.length<=i+f->gT l f i=some ((l.drop i).map fun c=>(c.toNat:Int)):=by
 intro f
 induction f with
 |zero=>intro i hi;unfold gT;rw[qT _ _ (by omega),List.drop_eq_nil_of_le (by omega)];rfl
 |succ f ih=>
  intro i hi;by_cases hl:i<l.length
  ·have h1:=Be l i (h i hl);have Mt:=ih (i+1) (by omega);have rE:byteAt l i=(l[i].toNat:Int):=by
    unfold byteAt;rw[a7 hl];rfl
   unfold gT at Mt⊢;rw[oN _ _ _ _ hl h1,Mt,rE,<-List.getElem_cons_drop (h:=hl),List.map_cons];rfl
  ·unfold gT;rw[qT _ _ hl,List.drop_eq_nil_of_le (by omega)];rfl
theorem E6(h:(cF l).2=true):iG kz 6 l=true:=by
 unfold cF at h;split at h
 ·rename_i hc;simp only[bZ,decide_eq_true_eq]at hc;obtain⟨⟨⟨h1,h2⟩,_⟩,h4⟩:=hc;unfold nA at h4;rw[List.all_eq_true]at h4;have hb: ∀i,i<l.length->byteAt l i<128:=fun i hi=>by
   have:=h4 l[i] (aY hi);unfold nH at this;simp only[bZ,decide_eq_true_eq]at this;unfold byteAt;rw[a7 hi];show((l[i]).toNat:Int)<128;omega
  have hl:lets l=some (l.map fun c=>(c.toNat:Int)):=Qk hb l.length 0 (by omega);rw[l7 hl,List.all_map];have:l.all ((fun c=>kz c)∘fun c:UInt8=>(c.toNat:Int))=true:=by rw[List.all_eq_true];intro c hc;exact h4 c hc
  simp only[bf,bZ,decide_eq_true_eq];exact⟨⟨this,h1⟩,h2⟩
 ·cases h
theorem Es(L:kE base dz):Says base dz 217 (fun l=>(cF l).2):=by
 refine⟨enters_of func217 (by kernel_rfl) rfl,fun s w hs hb=> ?_⟩;have HC:=pT L _ kz Aq s 6 w hs hb;cases hw:iG kz 6 s.data.toList
 ·have HN:Hid ((cF s.data.toList).2=false):=by
   show _=_;cases hn:(cF s.data.toList).2 with
   |false=>rfl
   |true=>rw[E6 hn]at hw;cases hw
  rw[hw]at HC;go_enter func217,ntmps217;go_wp2_with fail;refine HC.mono ?_;rintro e w1⟨rfl,hb1⟩;go_wp2;go_ret;exact⟨cO HN.out.symm,hb1⟩
 ·rw[hw]at HC;have hp:0<s.size:=by have:=uE hw;omega
  have H1:Hid (s.toList= [48]->(cF s.data.toList).2=true):=fun e=>QG hw (fun h'=>by rw[ByteArray.toList_eq]at e;have:=congrArg List.length e;rw[slen]at this;have:=h'.1;simp at*;omega)
  have H2:Hid ((s[0].toNat:Int)≠48->(cF s.data.toList).2=true):=fun e=>QG hw (fun h'=>e h'.2);have H3:Hid ((s[0].toNat:Int)=48->s.toList≠ [48]->(cF s.data.toList).2=false):=fun e h'=>by
   have h1:1<s.size:=by
    apply Classical.byContradiction;intro hn;have cg:s.size=1:=by omega
    apply h';rw[ByteArray.toList_eq];have hl:s.data.toList.length=1:=by rw[slen];exact cg
    have e0:s.data.toList[0]'(by omega)=48:=by apply UInt8.toNat.inj;show(s[0]).toNat=48;omega
    match hd:s.data.toList,hl with
    | [a],_=>simp only[hd,List.getElem_cons_zero]at e0;rw[e0]
   rw[wj s h1 (by simpa using e)]
  clear hw;go_enter func217,ntmps217;go_wp2_with fail;refine HC.mono ?_;rintro e w1⟨rfl,hb1⟩;clear HC;go_wp2
  ·rename_i he;go_ret;exact⟨cO (H1.out he).symm,hb1⟩
  ·rename_i he;go_ret;refine⟨cO ?_,hb1⟩;by_cases h48:(s[0].toNat:Int)=48
   ·rw[H3.out h48 he];simp[he,h48]
   ·rw[H2.out h48];simp[h48]
theorem Ka: ∀(l:List UInt8) (acc:Nat),nA l=true-> ∃m:Nat,Lib.decFrom acc l=some m∧(m:Int)=l.foldl (fun n c=>10*n+((c.toNat:Int)-48)) (acc:Int)
 | [],acc,_=>⟨acc,rfl,rfl⟩
 |c::l,acc,h=>by
  unfold nA at h;rw[List.all_cons,bZ]at h;have hc:=h.1;unfold nH at hc;simp only[bZ,decide_eq_true_eq]at hc;obtain⟨m,h1,h2⟩:=Ka l (acc*10+(c.toNat-48)) h.2;refine⟨m, ?_, ?_⟩
  ·unfold Lib.decFrom;have:Lib.digitVal c=some (c.toNat-48):=by unfold Lib.digitVal;rw[if_pos (by omega)]
   rw[this];exact h1
  ·rw[h2,List.foldl_cons];congr 1;omega
theorem Oz{l:List UInt8}(h:(cF l).2=true):Lib.atoi l=some (cF l).1:=by
 unfold cF at h⊢;split at h
 ·rename_i hc;rw[if_pos hc];simp only[bZ,decide_eq_true_eq]at hc;obtain⟨⟨⟨h1,_⟩,_⟩,h4⟩:=hc
  match l,h1,h4 with
  |c::r,_,h4=>
   obtain⟨m,e1,e2⟩:=Ka (c::r) 0 h4;have hd:=h4;unfold nA at hd;rw[List.all_cons,bZ]at hd;have hc:=hd.1;unfold nH at hc;simp only[bZ,decide_eq_true_eq]at hc;have n1:(c==45)=false:=by
    cases e:c==45 with
    |false=>rfl
    |true=>rw[beq_iff_eq]at e;rw[e]at hc;simp at hc
   have n2:(c==43)=false:=by
    cases e:c==43 with
    |false=>rfl
    |true=>rw[beq_iff_eq]at e;rw[e]at hc;simp at hc
   unfold Lib.atoi;dsimp only;rw[if_neg (by simp[n1]),if_neg (by simp[n2])];unfold Lib.decNat;rw[if_neg (by simp),e1];show some (m:Int)=_;rw[e2];rfl
 ·cases h
structure JT where
 g:Nat
 lb:Array Value
 k:Nat
 p:List UInt8->Bool
 val:List UInt8->Value
structure JT.ok(q:Nat)(f:JT)(w:World):Prop where
 enter: ∀args w,(callFunc f.g args).run prog w= .ok (.enter f.g args) w
 says: ∀(s:ByteArray) (wr:World) (cs:Array Value),s.size<=4194304->Only (fun b=>b=q) w wr->wr.heap[q]?=some (.cells cs 149 (0,0))->cs.size=5->
  Calls prog f.g (#[.string s]++f.lb) wr fun e w'=>e= .returned (.bool (f.p s.data.toList))∧Only (fun b=>b=q) wr w'∧(f.p s.data.toList=true->w'.heap[q]?=some (.cells (cs.setIfInBounds f.k (f.val s.data.toList)) 149 (0,0)))
def dw:List JT->List (List UInt8)->Bool
 | [], []=>true
 |f::fs,x::ws=>f.p x &&dw fs ws
 |_,_=>false
def jO:List JT->List (List UInt8)->Array Value->Array Value
 |f::fs,x::ws,cs=>jO fs ws (cs.setIfInBounds f.k (f.val x))
 |_,_,cs=>cs
theorem H6(f:JT)(fs:List JT)(x:List UInt8)(ws:List (List UInt8)):dw (f::fs) (x::ws)=(f.p x &&dw fs ws):=rfl
theorem MR(f:JT)(fs:List JT)(x:List UInt8)(ws:List (List UInt8))(cs:Array Value):jO (f::fs) (x::ws) cs=jO fs ws (cs.setIfInBounds f.k (f.val x)):=rfl
theorem ic{q:Nat}{w w':World}(h:Below w.heap.size w w'):Only (fun b=>b=q) w w':=⟨h.os,h.tape,h.output,h.size,fun k hk _=>h.block k hk⟩
theorem AY: ∀{fs:List JT} {ws:List (List UInt8)},ws.length≠fs.length->dw fs ws=false
 | [], [],h=>absurd rfl h
 | [],_::_,_=>rfl
 |_::_, [],_=>rfl
 |f::fs,x::ws,h=>by unfold dw;rw[AY (fs:=fs) (ws:=ws) (fun e=>h (by simp[e])),Bool.and_false]
theorem Kk(q:Nat)(ws:List (List UInt8))(fs:List JT)(ao bo:Option Addr)(a b cap js:Nat)(w:World)(cs:Array Value)(hf: ∀f∈fs,f.ok q w)(hq:w.heap[q]?=some (.cells cs 149 (0,0)))(hcs:cs.size=5)(bI:0<ws.length->ao=some ⟨a,1,none⟩∧a<w.heap.size∧a≠q)(GL:0<fs.length->bo=some ⟨b,0,none⟩∧b<w.heap.size∧b≠q)(mi: ∀x∈ws,x.length<=4194304)(nC:fs.length<=3)(gS:ws.length<=4194304)(pJ: ∀i (h:i<ws.length),w.cell? ⟨a,1+i,none⟩=some (.string ⟨(ws[i]'h).toArray⟩))(hck: ∀i (h:i<fs.length),w.cell? ⟨b,i,none⟩=some (.func (.func (fs[i]'h).g) #[] (fs[i]'h).lb)):Calls prog 176 #[.slice ao ws.length cap, .slice bo fs.length js] w fun e w'=>e= .returned (.bool (dw fs ws))∧Only (fun b=>b=q) w w'∧(dw fs ws=true->w'.heap[q]?=some (.cells (jO fs ws cs) 149 (0,0))):=by
 by_cases hl:ws.length=fs.length
 ·obtain⟨n,hn⟩: ∃n,fs.length=n:=⟨_,rfl⟩;have Sj:ws.length=n:=hl.trans hn;rw[Sj,hn];rw[hn]at nC GL;rw[Sj]at bI;have HW:Hid (∀f∈fs,f.ok q w):=hf;have HS:Hid (∀x∈ws,x.length<=4194304):=mi;have HCW:Hid (∀i (h:i<ws.length),w.cell? ⟨a,1+i,none⟩=some (.string ⟨(ws[i]'h).toArray⟩)):=pJ;have HCK:Hid (∀i (h:i<fs.length),w.cell? ⟨b,i,none⟩=some (.func (.func (fs[i]'h).g) #[] (fs[i]'h).lb)):=hck;have ZU:Hid (ws.length=n):=Sj;have zC:Hid (fs.length=n):=hn;have HQ:Hid (Only (fun b=>b=q) w w∧ ∃cs',w.heap[q]?=some (.cells cs' 149 (0,0))∧cs'.size=5∧dw fs ws=dw (fs.drop 0) (ws.drop 0)∧jO fs ws cs=jO (fs.drop 0) (ws.drop 0) cs'):=⟨Only.refl _ _,cs,hq,hcs,by simp,by simp⟩;clear hf mi pJ hck hl hn Sj hq hcs;go_enter func176,ntmps176;go_wp2;go_loopw [14] (fun i wr=> ∃k:Nat,k<=n∧i= .int .i64 k∧Hid (Only (fun b=>b=q) w wr∧ ∃cs',wr.heap[q]?=some (.cells cs' 149 (0,0))∧cs'.size=5∧dw fs ws=dw (fs.drop k) (ws.drop k)∧jO fs ws cs=jO (fs.drop k) (ws.drop k) cs')) (fun i _=>n-(intOf i).toNat)
  case atStart=>exact⟨0,aJ _,rfl,HQ⟩
  case round=>
   obtain⟨k,hk,rfl,HD⟩:=hrel;by_cases ay:k<n
   ·obtain⟨rfl,Xs,haq⟩:=bI (by omega);obtain⟨rfl,px,hbq⟩:=GL (by omega);have Ee:k<ws.length:=by rw[ZU.out];exact ay
    have oc:k<fs.length:=by rw[zC.out];exact ay
    obtain⟨ho,cs',wT,L3,e1,e2⟩:=HD.out;have c1:wr.cell? ⟨a,1+k,none⟩=some (.string ⟨(ws[k]'Ee).toArray⟩):=by have:=HCW.out k Ee;simp only[World.cell?,ho.block a Xs haq]at this⊢;exact this
    have c2:wr.cell? ⟨b,k,none⟩=some (.func (.func (fs[k]'oc).g) #[] (fs[k]'oc).lb):=by have:=HCK.out k oc;simp only[World.cell?,ho.block b px hbq]at this⊢;exact this
    have Ea:=HW.out _ (aY oc);have eg:=Ea.enter;have d1:fs.drop k=fs[k]::fs.drop (k+1):=(List.getElem_cons_drop (h:=oc)).symm;have d2:ws.drop k=ws[k]::ws.drop (k+1):=(List.getElem_cons_drop (h:=Ee)).symm;rw[d1,d2]at e1 e2;rw[H6]at e1;rw[MR]at e2;have HSY:Hid (Calls prog (fs[k]'oc).g (#[.string ⟨(ws[k]'Ee).toArray⟩]++(fs[k]'oc).lb) wr fun e w'=>e= .returned (.bool ((fs[k]'oc).p (ws[k]'Ee)))∧Only (fun b=>b=q) wr w'∧((fs[k]'oc).p (ws[k]'Ee)=true->w'.heap[q]?=some (.cells (cs'.setIfInBounds (fs[k]'oc).k ((fs[k]'oc).val (ws[k]'Ee))) 149 (0,0)))):=
     Ea.says ⟨(ws[k]'Ee).toArray⟩ wr cs' (by simpa[ByteArray.size]using HS.out _ (aY Ee)) ho wT L3
    cases hp:(fs[k]'oc).p (ws[k]'Ee)
    ·have jr:Hid (dw fs ws=false∧Only (fun b=>b=q) w wr):=⟨by rw[e1,hp];rfl,ho⟩;rw[hp]at HSY;clear HCW HCK HW HS HD bI GL ZU zC ho wT L3 e1 e2 d1 d2 Ea HQ hp;generalize(fs[k]'oc).g=g at*;generalize(fs[k]'oc).lb=lb at*;generalize(⟨(ws[k]'Ee).toArray⟩:ByteArray)=t at*;go_wp2_with (go_at_fn g;go_must(refine HSY.out.mono ?_;rintro e w1⟨rfl,ho1,_⟩));go_ret;exact⟨cO jr.out.1.symm,jr.out.2.trans ho1 (fun _ _ h=>h),fun h=>by rw[jr.out.1]at h;cases h⟩
    ·have HYE:Hid (∀w1,Only (fun b=>b=q) wr w1->w1.heap[q]?=some (.cells (cs'.setIfInBounds (fs[k]'oc).k ((fs[k]'oc).val (ws[k]'Ee))) 149 (0,0))->Hid (Only (fun b=>b=q) w w1∧ ∃cs',w1.heap[q]?=some (.cells cs' 149 (0,0))∧cs'.size=5∧dw fs ws=dw (fs.drop (k+1)) (ws.drop (k+1))∧jO fs ws cs=jO (fs.drop (k+1)) (ws.drop (k+1)) cs')):=fun w1 h1 h2=>⟨ho.trans h1 (fun _ _ h=>h),_,h2,by simpa using L3,by rw[e1,hp,Bool.true_and],e2⟩;rw[hp]at HSY;clear HCW HCK HW HS HD bI GL ZU zC ho wT L3 e1 e2 d1 d2 Ea HQ hp;generalize(cs'.setIfInBounds (fs[k]'oc).k ((fs[k]'oc).val (ws[k]'Ee)))=cs2 at*;generalize(fs[k]'oc).g=g at*;generalize(fs[k]'oc).lb=lb at*;generalize(⟨(ws[k]'Ee).toArray⟩:ByteArray)=t at*;go_wp2_with (go_at_fn g;go_must(refine HSY.out.mono ?_;rintro e w1⟨rfl,ho1,ng⟩;have HI:=HYE.out w1 ho1 (ng rfl);clear ho1 ng));go_roundw
     case rel=>exact⟨k+1,by omega,by go_num,HI⟩
     case measure=>simp[intOf];omega
   ·obtain rfl:k=n:=by omega
    have HF:Hid (dw fs ws=true∧Only (fun b=>b=q) w wr∧wr.heap[q]?=some (.cells (jO fs ws cs) 149 (0,0))):=by obtain⟨ho,cs',wT,L3,e1,e2⟩:=HD.out;have d1:fs.drop k= []:=List.drop_eq_nil_of_le (by rw[zC.out];exact ae _);have d2:ws.drop k= []:=List.drop_eq_nil_of_le (by rw[ZU.out];exact ae _);rw[d1,d2]at e1 e2;exact⟨e1,ho,by rw[e2];exact wT⟩
    clear HCW HCK HW HS HD bI GL ZU zC HQ;go_wp2;go_ret;exact⟨cO HF.out.1.symm,HF.out.2.1,fun _=>HF.out.2.2⟩
 ·have cC:((ws.length:Int) !=fs.length)=true:=by rw[bne_iff_ne];omega
  have jr:Hid (dw fs ws=false):=AY hl;clear pJ hck mi hf bI GL hq hcs hl;generalize qb:ws.length=n at*;generalize XR:fs.length=m at*;clear qb XR;go_enter func176,ntmps176;go_wp2;go_ret;exact⟨cO jr.out.symm,Only.refl _ _,fun h=>by rw[jr.out]at h;cases h⟩
end bJ
namespace bJ
open Go.RowKit
attribute [local go_sem] aL.ag aL.ar
variable{base q b k:Nat}{dz w:World}
def dI(b k:Nat):JT:=⟨216, #[.pointer (some ⟨b,0,none⟩)],k,fun l=>(cF l).2,fun l=> .int .i64 (cF l).1⟩
def fR(b b2 k:Nat)(p:List UInt8->Bool):JT:=⟨219, #[.pointer (some ⟨b,0,none⟩), .pointer (some ⟨b2,0,none⟩)],k,p,fun l=> .string ⟨l.toArray⟩⟩
theorem xW{wr:World}(hb:Below base dz w)(hq:base<=q)(hB:base<=w.heap.size)(h:Only (fun b=>b=q) w wr):Below base dz wr:=hb.trans (h.toBelow (fun _ hk=>hk▸hq) hB)
theorem lh(L:kE base dz)(hb:Below base dz w)(hB:base<=w.heap.size)(hq:base<=q)(hbq:b≠q)(px:b<w.heap.size)(hk:k<5)(hc:w.cell? ⟨b,0,none⟩=some (.pointer (some ⟨q,k,none⟩))):(dI b k).ok q w:=by
 refine⟨enters_of func216 (by kernel_rfl) rfl,fun s wr cs hs ho jm hcs=> ?_⟩;have yz:=xW hb hq hB ho;have HN:=(Es L).says s wr hs yz;have uK:q<wr.heap.size:=(cT.1 jm).1;have acn:b<wr.heap.size:=bP px ho.size;have hc':wr.cell? ⟨b,0,none⟩=some (.pointer (some ⟨q,k,none⟩)):=by simp only[World.cell?,ho.block b px hbq]at hc⊢;exact hc
 show Calls prog 216 #[.string s, .pointer (some ⟨b,0,none⟩)] wr fun e w'=>e= .returned (.bool (cF s.data.toList).2)∧Only (fun b=>b=q) wr w'∧((cF s.data.toList).2=true->w'.heap[q]?=some (.cells (cs.setIfInBounds k (.int .i64 (cF s.data.toList).1)) 149 (0,0)));cases hn:(cF s.data.toList).2
 ·rw[hn]at HN;clear hc hc' jm;go_enter func216,ntmps216;go_wp2_with (first|(go_at_call 217;go_must(refine HN.mono ?_;rintro e w1⟨rfl,hb1⟩)));go_ret;exact⟨rfl,ic hb1,fun h=>by cases h⟩
 ·rw[hn]at HN;have cg:s.size<=6:=(uE (E6 hn)).2.1;have HA:Hid (∀w1,Calls prog 218 #[.string s] w1 fun e w'=>e= .returned (.tuple #[.int .i64 (cF s.data.toList).1, .nilIface])∧Below w1.heap.size w1 w'):=fun w1=>by
   refine(Any.strconv_Atoi atoi s (cF s.data.toList).1 (by omega) (Oz hn) w1).mono ?_;rintro e w'⟨rfl,t,rfl⟩;exact⟨rfl,Go.Joins.below_bytesWorld _ _ _ _ (ae _)⟩
  have HC:Hid (∀w2,Below wr.heap.size wr w2->w2.cell? ⟨b,0,none⟩=some (.pointer (some ⟨q,k,none⟩))∧(∃y,w2.cell? ⟨q,k,none⟩=some y)∧w2.frozen? ⟨q,k,none⟩=false∧ ∀v,Only (fun b=>b=q) wr (w2.setCell ⟨q,k,none⟩ v)∧(w2.setCell ⟨q,k,none⟩ v).heap[q]?=some (.cells (cs.setIfInBounds k v) 149 (0,0))):=fun w2 h2=>by have qN:w2.heap[q]?=some (.cells cs 149 (0,0)):=(h2.block q uK).trans jm;refine⟨by rw[h2.cell (p:=⟨b,0,none⟩) acn];exact hc',⟨cs[k]'(by omega), ?_⟩,by simp only[World.frozen?,qN];simp,fun v=>⟨(ic h2).setCell _ _ (fun _=>rfl),heap_setCell_same w2 q k cs _ v qN⟩⟩;simp only[World.cell?,qN];exact Array.getElem?_eq_getElem (by omega)
  generalize(cF s.data.toList).1=num at*;clear hc hc' jm hn hb yz;go_enter func216,ntmps216;go_wp2_with (first
   |(go_at_call 217;go_must(refine HN.mono ?_;rintro e w1⟨rfl,hb1⟩))
   |(go_at_call 218;go_must(refine(HA.out _).mono ?_;rintro e w2⟨rfl,bN⟩;obtain⟨c1,⟨y,c2⟩,f2,Aj⟩:=HC.out w2 (hb1.trans (bN.mono hb1.size));have Lc:=Aj (.int .i64 num);have VI:Hid (_∧_):=Lc;clear Aj Lc)))
  go_ret;exact⟨rfl,VI.out.1,fun _=>VI.out.2⟩
theorem td{b2:Nat}{p:List UInt8->Bool}{g:Nat}(S:Says base dz g p)(hb:Below base dz w)(hB:base<=w.heap.size)(hq:base<=q)(hbq:b≠q)(px:b<w.heap.size)(aaD:b2≠q)(LW:b2<w.heap.size)(hk:k<5)(hc:w.cell? ⟨b,0,none⟩=some (.pointer (some ⟨q,k,none⟩)))(Kw:w.cell? ⟨b2,0,none⟩=some (.func (.func g) #[] #[])):(fR b b2 k p).ok q w:=by
 refine⟨enters_of func219 (by kernel_rfl) rfl,fun s wr cs hs ho jm hcs=> ?_⟩;have uK:q<wr.heap.size:=(cT.1 jm).1;have d1:wr.cell? ⟨b,0,none⟩=some (.pointer (some ⟨q,k,none⟩)):=by simp only[World.cell?,ho.block b px hbq]at hc⊢;exact hc
 have o1:Only (fun b=>b=q) wr (wr.setCell ⟨q,k,none⟩ (.string s)):=(Only.refl _ _).setCell _ _ (fun _=>rfl);have d2:(wr.setCell ⟨q,k,none⟩ (.string s)).cell? ⟨b2,0,none⟩=some (.func (.func g) #[] #[]):=by
  have h2:(wr.setCell ⟨q,k,none⟩ (.string s)).heap[b2]?=w.heap[b2]?:=by rw[o1.block b2 (bP LW ho.size) aaD,ho.block b2 LW aaD]
  simp only[World.cell?,h2]at Kw⊢;exact Kw
 have cq:wr.cell? ⟨q,k,none⟩=some (cs[k]'(by omega)):=by simp only[World.cell?,jm];exact Array.getElem?_eq_getElem (by omega)
 have fq:wr.frozen? ⟨q,k,none⟩=false:=by simp only[World.frozen?,jm];simp
 have ng:=heap_setCell_same wr q k cs _ (.string s) jm;have yz:Below base dz (wr.setCell ⟨q,k,none⟩ (.string s)):=xW hb hq hB (ho.trans o1 (fun _ _ h=>h));have HM:Hid (Calls prog g #[.string s] (wr.setCell ⟨q,k,none⟩ (.string s)) fun e w'=>e= .returned (.bool (p s.data.toList))∧Below (wr.setCell ⟨q,k,none⟩ (.string s)).heap.size (wr.setCell ⟨q,k,none⟩ (.string s)) w'):=S.says s _ hs yz;have eg:=S.enter;have HF:Hid (∀w',Below (wr.setCell ⟨q,k,none⟩ (.string s)).heap.size (wr.setCell ⟨q,k,none⟩ (.string s)) w'->Only (fun b=>b=q) wr w'∧w'.heap[q]?=some (.cells (cs.setIfInBounds k (.string s)) 149 (0,0))):=fun w' h=>⟨o1.trans (ic h) (fun _ _ h=>h),(h.block q (by simpa[World.setCell]using uK)).trans ng⟩;show Calls prog 219 #[.string s, .pointer (some ⟨b,0,none⟩), .pointer (some ⟨b2,0,none⟩)] wr fun e w'=>e= .returned (.bool (p s.data.toList))∧Only (fun b=>b=q) wr w'∧(p s.data.toList=true->w'.heap[q]?=some (.cells (cs.setIfInBounds k (.string s)) 149 (0,0)));generalize p s.data.toList=pb at*;clear hc Kw jm ng yz o1 ho S hb;go_enter func219,ntmps219;go_wp2_with (first
  |(go_at_fn g;go_must(refine HM.out.mono ?_;rintro e w1⟨rfl,hb1⟩;have pB:=HF.out w1 hb1;clear hb1)))
 go_ret;exact⟨rfl,pB.1,fun _=>pB.2⟩
theorem E7(q k:Nat)(w:World):Calls prog 175 #[.pointer (some ⟨q,k,none⟩)] w fun e w'=>e= .returned (.func (.func 216) #[] #[.pointer (some ⟨w.heap.size,0,none⟩)])∧w'=w.alloc (.cells #[.pointer (some ⟨q,k,none⟩)] 236):=by go_enter func175,ntmps175;go_wp2;go_ret;exact⟨rfl,rfl⟩
theorem ND(q k g:Nat)(w:World):Calls prog 177 #[.pointer (some ⟨q,k,none⟩), .func (.func g) #[] #[]] w fun e w'=>e= .returned (.func (.func 219) #[] #[.pointer (some ⟨w.heap.size,0,none⟩), .pointer (some ⟨w.heap.size+1,0,none⟩)])∧w'=(w.alloc (.cells #[.pointer (some ⟨q,k,none⟩)] 239)).alloc (.cells #[.func (.func g) #[] #[]] 116):=by go_enter func177,ntmps177;go_wp2;go_ret;exact⟨by simp,rfl⟩
end bJ
namespace Mc.St
variable{s:St}
theorem AK(id:Int)(c:Bool):(s.again id c).af.Sublist s.af:=by
 unfold again;split
 ·exact List.Sublist.refl _
 ·split
  ·exact List.Sublist.refl _
  ·split
   ·rename_i r _ _;exact(iE (s.say r.conn ([101,114,114,32]++cJ id)).af.length _ id).sub
   ·rw[(fQ _ _).2.1];split<;>exact List.Sublist.refl _
theorem DA: ∀(l:List At) (now:Int) (i:Nat) (b:Option (Nat×Int)),(∀j t,b=some (j,t)->j<i)-> ∀j t,dD now l i b=some (j,t)->j<i+l.length
 | [],_,i,b,hb,j,t,h=>by have:=hb j t h;simpa using this
 |a::l,now,i,b,hb,j,t,h=>by
  unfold dD at h;have:=DA l now (i+1) _ (fun j t h=> ?_) j t h
  ·rw[List.length_cons];omega
  ·split at h
   ·split at h
    ·cases h;omega
    ·split at h
     ·cases h;omega
     ·cases h;have:=hb _ _ rfl;omega
   ·have:=hb j t h;omega
theorem Xd{i:Nat}(h:s.due=some i):i<s.af.length:=by unfold due at h;obtain⟨⟨j,t⟩,hd,rfl⟩:=Option.map_eq_some_iff.1 h;have:=DA s.af s.now 0 none (fun _ _ h=>by cases h) j t hd;omega
end Mc.St
namespace Mr
open Go.RowKit aM Mc bJ
def lN(s:St)(i:Nat)(a:At):St:=((s.say a.conn (St.aD a.id a.n)).aS i).again a.id true
structure gm(p:Nat)(s:St)(w:World)(F:Ft)(s':St)(wr:World):Prop where
 inv:Inv s'
 bd:Bd 1099511627776 s'
 sz:s'.sz<=s.sz
 goes:Goes (aU p s') w F wr
 rest: ∃f,s'.af.length<=f∧St.cV s.af.length s=St.cV f s'
theorem yP{s:St}{i:Nat}{a:At}(ha:s.af[i]?=some a):(lN s i a).af.length+1<=s.af.length:=by have h1:=(St.AK (s:=(s.say a.conn (St.aD a.id a.n)).aS i) a.id true).length_le;rw[(St.cG (s:=s.say a.conn (St.aD a.id a.n)) i).2.1]at h1;have h2:=St.eH ha;unfold lN;have h3:((s.say a.conn (St.aD a.id a.n)).af.eraseIdx i).length=(s.af.eraseIdx i).length:=rfl;omega
theorem gm.next{p:Nat}{s s':St}{w:World}{F:Ft}{wr w2:World}(h:gm p s w F s' wr){i:Nat}{a:At}(hi:s'.due=some i)(ha:s'.af[i]?=some a)(hg:Goes (aU p (lN s' i a)) w F w2):gm p s w F (lN s' i a) w2:=by
 obtain⟨f,hf,e⟩:=h.rest;have hlen:=yP ha;have h2:=St.mD (s:=s'.say a.conn (St.aD a.id a.n)) ha;rw[St.eZ]at h2;have h3:=St.tu (s:=(s'.say a.conn (St.aD a.id a.n)).aS i) a.id true;have i1:=St.br (St.bM h.inv a.conn (St.aD a.id a.n)) i;refine⟨St.eC i1 _ _,((h.bd.say _ _).aS _).again i1 _ _,by have:=h.sz;unfold lN;omega,hg, ?_⟩
 match f,hf,e with
 |0,hf,_=>omega
 |f+1,hf,e=>
  refine⟨f,by omega, ?_⟩;rw[e];conv=>lhs;unfold St.cV
  rw[hi];dsimp only;rw[ha];rfl
theorem gm.done{p:Nat}{s s':St}{w:World}{F:Ft}{wr:World}(h:gm p s w F s' wr)(hi:s'.due=none):s'=St.cV s.af.length s:=by
 obtain⟨f,hf,e⟩:=h.rest;rw[e]
 match f with
 |0=>rfl
 |f+1=>unfold St.cV;rw[hi]
def ik(s:St)(k:Nat):St:=(s.af.take k).foldl St.bA s
theorem D7{s:St}{k:Nat}(hk:k<s.af.length):ik s (k+1)=(ik s k).bA (s.af[k]'hk):=by unfold ik;rw[fp hk,List.foldl_append];rfl
theorem Ih(s:St):ik s s.af.length=s.eE:=by unfold ik St.eE;rw[List.take_length]
theorem D4(s:St)(a:At):(s.bA a).af=s.af∧(s.bA a).c=s.c∧(s.bA a).now=s.now:=by
 unfold St.bA;split
 ·exact⟨rfl,rfl,rfl⟩
 ·split
  ·obtain⟨_,h,_⟩:=St.fQ (s:=s.bu a.id (fun r=>{r with bn:=true})) a.id false;refine⟨h, ?_, ?_⟩<;>unfold St.a6<;>split<;>rfl
  ·exact⟨rfl,rfl,rfl⟩
theorem A0: ∀(l:List At) (s:St),(l.foldl St.bA s).af=s.af∧(l.foldl St.bA s).c=s.c∧(l.foldl St.bA s).now=s.now
 | [],_=>⟨rfl,rfl,rfl⟩
 |a::l,s=>by obtain⟨h1,h2,h3⟩:=A0 l (s.bA a);obtain⟨e1,e2,e3⟩:=D4 s a;exact⟨h1.trans e1,h2.trans e2,h3.trans e3⟩
theorem L5{s:St}{a:At}{r:Rq}(hr:s.req a.id=some r)(h: ¬0<s.c.he∨ ¬s.c.he<=s.now-a.k7∨r.bn=true∨s.waits a.id=true∨s.count a.id≠1):s.bA a=s:=by
 unfold St.bA;rw[hr];dsimp only;rw[if_neg];intro hc;simp only[bZ,decide_eq_true_eq,Bool.not_eq_true',beq_iff_eq]at hc;obtain⟨⟨⟨⟨h1,h2⟩,h3⟩,h4⟩,h5⟩:=hc;rcases h with h|h|h|h|h
 ·exact h h1
 ·exact h h2
 ·rw[h]at h3;cases h3
 ·rw[h]at h4;cases h4
 ·exact h h5
theorem Ig{s:St}{a:At}{r:Rq}(hr:s.req a.id=some r)(h1:0<s.c.he)(h2:s.c.he<=s.now-a.k7)(h3:r.bn=false)(h4:s.waits a.id=false)(h5:s.count a.id=1):s.bA a=(s.bu a.id (fun r=>{r with bn:=true})).a6 a.id false:=by unfold St.bA;rw[hr];dsimp only;rw[if_pos];simp[h1,h2,h3,h4,h5]
theorem UO{p:Nat}{s:St}{m:MV}{g:List (Ln×Value)}{w:World}{F:Ft}(hr:g.map (·.1)=s.ring)(az:(aI p s m g).holds w F)(x:Int):Goes (aU p {s with now:=x}) w F (w.setCell ⟨p,5,none⟩ (.int .i64 x)):=
 cI (s:={s with now:=x}) (m:=m) hr (Goes.store (cs:=y9 s m) (Goes.refl az) 5 (.int .i64 x))
