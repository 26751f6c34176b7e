import Derived.Test.YtffamlbkmjmipaaGreatDoorC27
import Derived.Test.YtffamlbkmjmipaaGreatDoorC33
set_option maxHeartbeats 8000000
set_option maxRecDepth 100000
namespace Go.Proofs.YtffamlbkmjmipaaGreatDoor
open _root_.Go.Proofs.Tryz
namespace Pj
open Go.RowKit aD Mc bA fX Go.Lib
attribute [local go_sem] ae ah
section
variable{p:Nat}{dr:Bool}{kv:Value}{r:Bs}{w w1:World}{F:Ft}
theorem oN(h:(aa (Ae p dr kv) (Ej kv r)).holds w F):w.heap[p]?=some (.cells #[kv, .bool dr] 107 (0,0))∧w.ownsRow 0 5 1 kv r.length (kW r)∧kv.ownBlock≠some p∧ ∀k,F k↔k=p∨kv.ownBlock=some k:=by obtain⟨G,H,⟨h1,h2⟩,⟨h3,h4⟩,d,e⟩:=h;exact⟨h1,h3,fun e'=>d p ((h2 p).2 rfl) ((h4 p).2 e'),fun k=>by rw[e k,h2 k,h4 k]⟩
theorem J9{v':Value}{n:Nat}{xs:Bs}(h:(aa (Ae p dr kv) (Ej kv r)).holds w F)(hn:n=xs.length)(cQ:w1.ownsRow 0 5 1 v' n (kW xs))(hg:w.grownBy w1 kv.ownBlock)(tA:v'.ownBlock=kv.ownBlock∨v'.ownBlock=some w.heap.size):Goes (aa (Ae p dr v') (Ej v' xs)) w F (w1.setCell ⟨p,0,none⟩ v'):=by
 obtain⟨h1,h2,h3,h4⟩:=oN h;have LU:p<w.heap.size:=(bZ.1 h1).1;have bP:w1.heap[p]?=some (.cells #[kv, .bool dr] 107 (0,0)):=(hg.block p LU (fun e=>h3 e.symm)).trans h1;have cz:v'.ownBlock≠some p:=fun e=>by
  rcases tA with h|h
  ·exact h3 (h.symm.trans e)
  ·rw[h]at e;have:=Option.some.inj e;omega
 have o2:Only (fun b=>b=p) w1 (w1.setCell ⟨p,0,none⟩ v'):=(Only.refl _ _).setCell _ _ (fun _=>rfl);refine⟨fun k=>k=p∨v'.ownBlock=some k,⟨fun k=>k=p,fun k=>v'.ownBlock=some k,⟨heap_setCell_same w1 p 0 _ _ v' bP,fun k=>Iff.rfl⟩,⟨?_,fun k=>Iff.rfl⟩,fun k hk lj=>cz (hk▸lj),fun k=>Iff.rfl⟩, ?_,fun k hk=> ?_⟩
 ·subst hn;exact o2.row cQ (fun b hb e=>cz (e▸hb))
 ·refine⟨o2.os.trans hg.os,o2.tape.trans hg.tape,o2.output.trans hg.output,au hg.size o2.size,fun k hk RV=> ?_⟩;have Qx:k≠p:=fun e=>RV ((h4 k).2 (.inl e));rw[o2.block k (bE hk hg.size) Qx];exact hg.block k hk (fun e=>RV ((h4 k).2 (.inr e.symm)))
 ·rcases hk with e|e
  ·exact .inl ((h4 k).2 (.inl e))
  ·rcases tA with h|h
   ·exact .inl ((h4 k).2 (.inr (h▸e)))
   ·rw[h]at e;right;have:=Option.some.inj e;omega
end
theorem KQ(p:Nat)(dr:Bool)(kv:Value)(r:Bs)(s:ByteArray)(w:World)(F:Ft)(h:(aa (Ae p dr kv) (Ej kv r)).holds w F)(hr:r.length<=81)(hs:s.size<=4194304):Calls prog 49 #[pt p, .string s] w fun e w'=>e= .returned (.tuple #[])∧ ∃CI,Goes (aa (Ae p dr CI) (Ej CI ((r++s.data.toList).take 81))) w F w':=by
 obtain⟨i0,hi,nV,j0,kC⟩:=info_parts infoByte;obtain⟨hb,cQ,cz,_⟩:=oN h;have c0:w.cell? ⟨p,0,none⟩=some kv:=by simp only[World.cell?,hb];rfl
 have f0:w.frozen? ⟨p,0,none⟩=false:=by simp only[World.frozen?,hb];simp
 have LU:p<w.heap.size:=(bZ.1 hb).1;obtain⟨ao,cp,rfl,Xa,_⟩:=pd cQ;have HN:Hid ((Value.slice ao r.length cp).ownBlock≠some p):=cz;have HP:=hide h;clear h cz hb;obtain⟨k,hk⟩: ∃k,min (81-r.length) s.size=k:=⟨_,rfl⟩;have aau:min (81-(r.length:Int)) (s.size:Int)=(k:Int):=by omega
 have qZ:k<=s.size:=by omega
 have aaq:(k:Int)<=(s.size:Int):=by omega
 have RT:0<=(k:Int):=by omega
 have Z7:(k:Int).toNat=k:=rfl;have HT:Hid (r++(s.extract 0 k).data.toList=(r++s.data.toList).take 81):=Ib r s hr hk;have hts:(s.extract 0 k).size<=4194304:=by simp;omega
 clear hk;unfold pt;go_enter func49,ntmps49;go_wp2_with fail
 go_region_law (refine nP (by rfl) _ _ 35 9 (by rfl) 0 5 i0 underlying35 underlying9 hi nV j0 kC (.slice ao r.length cp) r.length (kW r) (by rfl) cQ.drew (s.extract 0 k) (by rfl) (by unfold maxLen;omega) (by omega) (bk _) ?_;intro v' w1 JN lh tA;obtain⟨gp,jo,rfl,_,_⟩:=pd JN;have c1:w1.cell? ⟨p,0,none⟩=some (.slice ao r.length cp):=(by rw[lh.cell_far _ (by simpa using LU) (fun e=>HN.out e.symm)];exact c0);have f1:w1.frozen? ⟨p,0,none⟩=false:=(by rw[lh.frozen_far _ (by simpa using LU) (fun e=>HN.out e.symm)];exact f0))
 all_goals
  go_end0;have cY:(s.extract 0 k).size=k:=by simp;omega
  rw[cY]at JN tA;refine⟨rfl,_,J9 HP.out (n:=r.length+k) (by rw[<-HT.out,aC];simp;omega) ?_ ⟨lh.os,lh.tape,lh.output,lh.size,lh.block⟩ tA⟩;rw[<-HT.out,uR];exact JN
theorem KR(p:Nat)(dr:Bool)(kv:Value)(r:Bs)(w:World)(F:Ft)(h:(aa (Ae p dr kv) (Ej kv r)).holds w F)(hr:r.length<=81):Calls prog 51 #[pt p] w fun e w'=>e= .returned (bs r)∧ ∃CI,Goes (aa (Ae p dr CI) (Ej CI [])) w F w':=by
 obtain⟨hb,cQ,cz,_⟩:=oN h;have c0:w.cell? ⟨p,0,none⟩=some kv:=by simp only[World.cell?,hb];rfl
 have f0:w.frozen? ⟨p,0,none⟩=false:=by simp only[World.frozen?,hb];simp
 obtain⟨ao,cp,rfl,Xa,ck⟩:=pd cQ;have ZL:(convert 35 9 (.slice ao r.length cp)).run prog w= .ok (.string ⟨r.toArray⟩) w:=by
  rcases Nat.eq_zero_or_pos r.length with h0|h0
  ·have QE:r= []:=List.eq_nil_of_length_eq_zero h0;subst QE;rcases cQ.2 with⟨h,_⟩|⟨g,cap,cur,h,_⟩
   ·rw[h];rw[run_convert_bytes_string w _ _ _ none 0 0 underlying35 underlying5 underlying9];rfl
   ·rw[h];exact run_convert_bytes_back w _ _ _ ⟨g,0,none⟩ cap [] underlying35 underlying5 underlying9 (fun j hj=>absurd hj (by simp))
  ·obtain⟨g,rfl⟩:=ck h0;refine run_convert_bytes_back w _ _ _ ⟨g,0,none⟩ cp r underlying35 underlying5 underlying9 (fun j hj=> ?_);have h:=cQ.cells (g:=g) rfl j (.int .u8 (r[j].toNat:Int)) (by simp[kW,List.getElem?_eq_getElem hj]);exact h
 have aaj:(r.length:Int)<=(cp:Int):=by omega
 have HF:Hid (Goes (aa (Ae p dr (.slice ao 0 cp)) (Ej (.slice ao 0 cp) [])) w F (w.setCell ⟨p,0,none⟩ (.slice ao 0 cp))):=
  J9 h (n:=0) rfl (Gi cQ) ⟨rfl,rfl,rfl,af _,fun _ _ _=>rfl⟩ (.inl (by cases ao<;>rfl))
 clear h hb cz cQ ck;unfold pt bs;go_enter func51,ntmps51;go_wp2;go_ret;exact⟨rfl,_,HF.out⟩
theorem CS(p:Nat)(dr:Bool)(kv:Value)(r:Bs)(w:World)(F:Ft)(h:(aa (Ae p dr kv) (Ej kv r)).holds w F)(hr:r.length<=81):Calls prog 91 #[pt p] w fun e w'=>e= .returned (.bool (decide (r= [])))∧w'=w:=by
 obtain⟨hb,cQ,cz,_⟩:=oN h;have c0:w.cell? ⟨p,0,none⟩=some kv:=by simp only[World.cell?,hb];rfl
 obtain⟨ao,cp,rfl,Xa,ck⟩:=pd cQ;have HB:Hid (((r.length:Int)==0)=decide (r= [])):=by
  show _=_;cases r with
  |nil=>rfl
  |cons a l=>simp;omega
 clear h hb cz cQ ck;unfold pt;go_enter func91,ntmps91;go_wp2;go_ret;exact⟨bA.cZ HB.out,rfl⟩
end Pj
namespace Pj
open Go.RowKit aD Mc bA
attribute [local go_sem] ae ah
section
variable{base x tb:Nat}{g:Gh}{cn:List (Int×Nat×Bs)}{s:St}{w w':World}{F:Ft}
theorem wC(s:St)(c:Int):c∈(s.conn c).ak.map (·.n):=by
 unfold St.conn;split
 ·rename_i h;obtain⟨y,hy,e⟩:=List.any_eq_true.1 h;exact ax.2 ⟨y,hy,by simpa using e⟩
 ·exact ax.2 ⟨_,List.mem_append_right _ (cC.2 rfl),rfl⟩
theorem om(T:Tabs base w)(h:(stA base x tb g cn s).holds w F)(hi:Inv s)(hz:s.sz<=16776000)(c:Int)(hc:I6 c):Calls prog 47 #[pt x, .int .i64 c] w fun e w'=> ∃p b Hh,e= .returned (pt p)∧(c,p,b)∈Hh∧((Hh=cn∧(c,p,b)∈cn)∨(c∉cn.map (·.1)∧b= []∧Hh=cn++ [(c,p, [])]))∧Goes (stA base x tb g Hh (s.conn c)) w F w':=by
 by_cases hm:c∈cn.map (·.1)
 ·obtain⟨⟨c',p,b⟩,hk,rfl⟩:=ax.1 hm;refine(qR h hc hk).mono ?_;rintro e w'⟨rfl,rfl⟩;refine⟨p,b,cn,rfl,hk, .inl ⟨rfl,hk⟩, ?_⟩;exact yi (Goes.refl h) (St.iF c').2.2.2.2.1 (fun j hj=>hj.conn c')
 ·obtain⟨j,r1,r2,r3,hF,hh⟩:=h;have wf:=dD r1 hi (by omega);have hn:c∉j.br.map (·.n):=by
   intro BC;apply hm;rw[<-r3];unfold gu;rw[az];exact BC
  obtain⟨cm,w2,c6,c6',gZ,Cr,hg⟩:=QP hh wf.b8 c hc hn 0;have HG:Hid (Goes (stA base x tb g (cn++ [(c,w.heap.size, [])]) (s.conn c)) w F w2):=by
   refine fJ (s':=s.conn c) T hF ((r1.conn c).kept c w.heap.size hn (wC s c)) r2 ?_ ?_
   ·unfold gu at*;dsimp only;rw[aB,r3];rfl
   ·rw[(St.iF c).2.2.2.2.1];exact hg
  have aac:(Instr.mapUpdate 81 (.map (some cm)) (.int .i64 c) (pt w.heap.size)).run prog (w.alloc (.cells #[.slice none 0 0, .bool false] 107))= .ok () w2:=Cr;have HM:=hide hm;clear hh wf r1 r2 r3 hg Cr hm hn hi hz;unfold pt at*;go_enter func47,ntmps47;go_wp2;go_ret;exact⟨_, [],_,rfl,List.mem_append_right _ (cC.2 rfl), .inr ⟨HM.out,rfl,rfl⟩,HG.out⟩
end
end Pj
namespace Mc
open bA
namespace St
variable{s:St}
def nr(s:St):List (Int×Bs):=s.ak.map (fun x:Cn=>(x.n,x.rest))
theorem C0(c:Int)(t:Bs):(s.say c t).nr=s.nr:=rfl
theorem Ir(c:Int):(s.dR c).nr=s.nr:=by
 unfold dR;split
 ·exact bp (fun x:Cn=>x.n==c) (fun x:Cn=>{x with gone:=true}) (fun x:Cn=>(x.n,x.rest)) (fun _=>rfl) s.ak
 ·rfl
theorem lN(i:Nat):(s.aU i).nr=s.nr:=by
 unfold aU;split
 ·rw[Ir];rfl
 ·rfl
theorem Bh: ∀(f:Nat) (s:St) (id:Int),(stops f s id).nr=s.nr
 |0,_,_=>rfl
 |f+1,s,id=>by
  unfold stops;split
  ·rfl
  ·split
   ·rfl
   ·rw[Bh f,lN,C0]
theorem sA(id:Int):(s.shut id).nr=s.nr:=Bh _ s id
theorem uC(id:Int)(f:Bool):(s.aT id f).nr=s.nr:=by unfold aT;split<;>rfl
theorem sJ(id:Int)(c:Bool):(s.again id c).nr=s.nr:=by
 unfold again;split
 ·rfl
 ·split
  ·rfl
  ·split
   ·rw[sA,C0]
   ·rw[uC];split<;>rfl
theorem MZ(c:Int)(ws:List Int)(k:Nat):(s.give c ws k).nr=s.nr:=by
 unfold give;split
 ·rfl
 ·split
  ·rfl
  ·split<;>rfl
theorem wK: ∀(f:Nat) (s:St),(bK f s).nr=s.nr
 |0,_=>rfl
 |f+1,s=>by
  unfold bK;split
  ·rfl
  ·split
   ·rfl
   ·rw[wK f,MZ]
theorem uv:s.serve.nr=s.nr:=wK _ _
theorem GJ(c:Int)(m:Mg):(s.bT c m).nr=s.nr:=by
 unfold bT;split
 ·rfl
 ·split
  ·rfl
  ·rw[uC];rfl
theorem MB(c:Int):(s.conn c).nr=s.nr∨(s.conn c).nr=s.nr++ [(c, [])]:=by
 unfold conn;split
 ·exact .inl rfl
 ·right;unfold nr;rw[aB];rfl
theorem Ah: ∀(f:Nat) (s:St),(bV f s).nr=s.nr
 |0,_=>rfl
 |f+1,s=>by
  unfold bV;split
  ·rfl
  ·split
   ·rfl
   ·rw[Ah f,sJ,lN,C0]
theorem Fl(a:At):(s.bG a).nr=s.nr:=by
 unfold bG;split
 ·rfl
 ·split
  ·rw[uC];rfl
  ·rfl
theorem DW: ∀(l:List At) (s:St),(l.foldl bG s).nr=s.nr
 | [],_=>rfl
 |a::l,s=>by rw[List.foldl_cons,DW l,Fl]
theorem Ow:s.tick.nr=s.nr:=by unfold tick;dsimp only;rw[uv];unfold dp;rw[DW,Ah];rfl
theorem nH: ∀(f:Nat) (s:St) (i:Nat) (id c:Int),(bH f s i id c).nr=s.nr
 |0,_,_,_,_=>rfl
 |f+1,s,i,id,c=>by
  unfold bH;split
  ·rfl
  ·split
   ·rw[nH f,lN]
   ·rw[nH f]
theorem og: ∀(f:Nat) (s:St) (c:Int),(aO f s c).nr=s.nr
 |0,_,_=>rfl
 |f+1,s,c=>by
  unfold aO;split
  ·rfl
  ·rw[og f,sA,nH]
theorem oc: ∀(f:Nat) (s:St) (c:Int),(aN f s c).nr=s.nr
 |0,_,_=>rfl
 |f+1,s,c=>by
  unfold aN;split
  ·rfl
  ·split
   ·rfl
   ·rw[oc f,sJ,lN]
theorem IH(c:Int):(s.close c).nr=s.nr.filter fun y=>y.1 !=c:=by unfold close;dsimp only;rw[uv,oc,og];unfold nr idle;dsimp only;rw[List.filter_map];rfl
theorem l7(d:Int):s.cu d=match s.nr.find? (fun y=>y.1==d)with|some y=>y.2|none=> []:=by unfold cu nr;rw[List.find?_map];have e:((fun y:Int×Bs=>y.1==d)∘fun x:Cn=>(x.n,x.rest))=fun x=>x.n==d:=rfl;rw[e];cases s.ak.find? (fun x=>x.n==d)<;>rfl
theorem rest_of{s':St}(h:s'.nr=s.nr)(d:Int):s'.cu d=s.cu d:=by rw[l7,l7,h]
theorem vK{c:Int}(h:c∈s.ak.map (·.n)):s.conn c=s:=by unfold conn;rw[if_pos];obtain⟨x,hx,e⟩:=ax.1 h;exact List.any_eq_true.2 ⟨x,hx,by simpa using e⟩
theorem UH(s:St):s.nr.map (·.1)=s.ak.map (·.n):=by unfold nr;rw[az];rfl
theorem AD{c:Int}(h:c∈s.ak.map (·.n))(m:Mg):(s.message c m).nr=s.nr:=by
 have e:=vK h;unfold message;rw[e];split
 ·exact GJ c m
 split
 ·split
  ·rfl
  ·split
   ·rw[sA];rfl
   ·rfl
 split
 ·split
  ·rfl
  ·dsimp only;split<;>rfl
 split
 ·exact(by unfold nr;rfl)
 split
 ·split
  ·rfl
  ·split
   ·rfl
   ·rw[sA,lN];rfl
 split
 ·split
  ·rfl
  ·rw[sJ,lN]
 split
 ·dsimp only;rw[Ir];exact bp (fun x:Cn=>x.n==c) (fun x:Cn=>{x with drains:=true}) (fun x:Cn=>(x.n,x.rest)) (fun _=>rfl) s.ak
 ·rfl
theorem Ep{c:Int}(h:c∈s.ak.map (·.n))(l:Bs):(s.line c l).nr=s.nr:=by
 unfold line;split
 ·rw[uv,AD h]
 ·rfl
theorem EX(c d:Int):(s.conn c).cu d=s.cu d:=by
 rcases MB (s:=s) c with h|h
 ·exact rest_of h d
 ·rw[l7,l7,h,List.find?_append];cases hf:s.nr.find? (fun y=>y.1==d)with
  |some y=>rfl
  |none=>
   by_cases e:c=d
   ·subst e;simp
   ·simp[e]
theorem C4{c:Int}(r:Bs)(d:Int)(hc:c∈s.ak.map (·.n)):(s.bD c r).cu d=if d=c then r else s.cu d:=by
 unfold bD cu;dsimp only;have hs: ∀l:List Cn,c∈l.map (·.n)->(match (aA (fun x:Cn=>x.n==c) (fun x=>{x with rest:=r}) l).find? (fun x=>x.n==d)with|some x=>x.rest|none=> [])=if d=c then r else(match l.find? (fun x=>x.n==d)with|some x=>x.rest|none=> []):=by
  intro l
  induction l with
  |nil=>intro h;cases h
  |cons y l ih=>
   intro h;unfold aA;by_cases e:(y.n==c)=true
   ·rw[if_pos e];have e':y.n=c:=by simpa using e
    rw[List.find?_cons,List.find?_cons];by_cases ed:d=c
    ·subst ed;simp[e']
    ·have:(y.n==d)=false:=by
      rw[e'];exact beq_eq_false_iff_ne.2 (fun h=>ed h.symm)
     simp[this,ed]
   ·rw[if_neg e];have hm:c∈l.map (·.n):=by
     rw[List.map_cons,List.mem_cons]at h;rcases h with h|h
     ·exact absurd (by simpa using h.symm) e
     ·exact h
    have FE:=ih hm;rw[List.find?_cons,List.find?_cons];by_cases ed:(y.n==d)=true
    ·rw[ed];have:d≠c:=fun h=>e (by rw[<-h];exact ed);simp[this]
    ·have ed':(y.n==d)=false:=by simpa using ed
     rw[ed'];exact FE
 exact hs s.ak hc
