import Derived.Test.YtffamlbkmjmipaaGreatDoorB36
import Derived.Test.YtffamlbkmjmipaaGreatDoorB43
set_option maxHeartbeats 8000000
set_option maxRecDepth 100000
namespace Go.Proofs.YtffamlbkmjmipaaGreatDoor
open _root_.Go.Proofs.Tryz
namespace Pj
open Go.RowKit aM Mc bJ fA Go.Lib
attribute [local go_sem] ag ar
section
variable{p:Nat}{dr:Bool}{kv:Value}{r:Bs}{w w1:World}{F:Ft}
theorem tU(h:(aa (EA p dr kv) (KO kv r)).holds w F):w.heap[p]?=some (.cells #[kv, .bool dr] 107 (0,0))∧w.ownsRow 0 5 1 kv r.length (pO r)∧kv.ownBlock≠some p∧ ∀k,F k↔k=p∨kv.ownBlock=some k:=by obtain⟨G,H,⟨h1,h2⟩,⟨h3,h4⟩,d,e⟩:=h;exact⟨h1,h3,fun e'=>d p ((h2 p).2 rfl) ((h4 p).2 e'),fun k=>by rw[e k,h2 k,h4 k]⟩
theorem Qf{v':Value}{n:Nat}{xs:Bs}(h:(aa (EA p dr kv) (KO kv r)).holds w F)(hn:n=xs.length)(a8:w1.ownsRow 0 5 1 v' n (pO xs))(hg:w.grownBy w1 kv.ownBlock)(rD:v'.ownBlock=kv.ownBlock∨v'.ownBlock=some w.heap.size):Goes (aa (EA p dr v') (KO v' xs)) w F (w1.setCell ⟨p,0,none⟩ v'):=by
 obtain⟨h1,h2,h3,h4⟩:=tU h;have Ej:p<w.heap.size:=(cT.1 h1).1;have hb1:w1.heap[p]?=some (.cells #[kv, .bool dr] 107 (0,0)):=(hg.block p Ej (fun e=>h3 e.symm)).trans h1;have cC:v'.ownBlock≠some p:=fun e=>by
  rcases rD with h|h
  ·exact h3 (h.symm.trans e)
  ·rw[h]at e;have:=Option.some.inj e;omega
 have o2:Only (fun b=>b=p) w1 (w1.setCell ⟨p,0,none⟩ v'):=(Only.refl _ _).setCell _ _ (fun _=>rfl);refine⟨fun k=>k=p∨v'.ownBlock=some k,⟨fun k=>k=p,fun k=>v'.ownBlock=some k,⟨heap_setCell_same w1 p 0 _ _ v' hb1,fun k=>Iff.rfl⟩,⟨?_,fun k=>Iff.rfl⟩,fun k hk jU=>cC (hk▸jU),fun k=>Iff.rfl⟩, ?_,fun k hk=> ?_⟩
 ·subst hn;exact o2.row a8 (fun b hb e=>cC (e▸hb))
 ·refine⟨o2.os.trans hg.os,o2.tape.trans hg.tape,o2.output.trans hg.output,aw hg.size o2.size,fun k hk V3=> ?_⟩;have BO:k≠p:=fun e=>V3 ((h4 k).2 (.inl e));rw[o2.block k (bP hk hg.size) BO];exact hg.block k hk (fun e=>V3 ((h4 k).2 (.inr e.symm)))
 ·rcases hk with e|e
  ·exact .inl ((h4 k).2 (.inl e))
  ·rcases rD with h|h
   ·exact .inl ((h4 k).2 (.inr (h▸e)))
   ·rw[h]at e;right;have:=Option.some.inj e;omega
end
theorem QT(p:Nat)(dr:Bool)(kv:Value)(r:Bs)(s:ByteArray)(w:World)(F:Ft)(h:(aa (EA p dr kv) (KO kv r)).holds w F)(hr:r.length<=81)(hs:s.size<=4194304):Calls prog 49 #[pt p, .string s] w fun e w'=>e= .returned (.tuple #[])∧ ∃IP,Goes (aa (EA p dr IP) (KO IP ((r++s.data.toList).take 81))) w F w':=by
 obtain⟨i0,hi,gI,dN,fS⟩:=info_parts infoByte;obtain⟨hb,a8,cC,_⟩:=tU h;have c0:w.cell? ⟨p,0,none⟩=some kv:=by simp only[World.cell?,hb];rfl
 have f0:w.frozen? ⟨p,0,none⟩=false:=by simp only[World.frozen?,hb];simp
 have Ej:p<w.heap.size:=(cT.1 hb).1;obtain⟨ao,cp,rfl,hcp,_⟩:=uh a8;have HN:Hid ((Value.slice ao r.length cp).ownBlock≠some p):=cC;have HP:=hide h;clear h cC hb;obtain⟨k,hk⟩: ∃k,min (81-r.length) s.size=k:=⟨_,rfl⟩;have adO:min (81-(r.length:Int)) (s.size:Int)=(k:Int):=by omega
 have kJ:k<=s.size:=by omega
 have adJ:(k:Int)<=(s.size:Int):=by omega
 have Sc:0<=(k:Int):=by omega
 have hkt:(k:Int).toNat=k:=rfl;have HT:Hid (r++(s.extract 0 k).data.toList=(r++s.data.toList).take 81):=Ot r s hr hk;have hts:(s.extract 0 k).size<=4194304:=by simp;omega
 clear hk;unfold pt;go_enter func49,ntmps49;go_wp2_with fail
 go_region_law (refine sX (by rfl) _ _ 35 9 (by rfl) 0 5 i0 underlying35 underlying9 hi gI dN fS (.slice ao r.length cp) r.length (pO r) (by rfl) a8.drew (s.extract 0 k) (by rfl) (by unfold maxLen;omega) (by omega) (aJ _) ?_;intro v' w1 nE gR rD;obtain⟨dP,eQ,rfl,_,_⟩:=uh nE;have c1:w1.cell? ⟨p,0,none⟩=some (.slice ao r.length cp):=(by rw[gR.cell_far _ (by simpa using Ej) (fun e=>HN.out e.symm)];exact c0);have f1:w1.frozen? ⟨p,0,none⟩=false:=(by rw[gR.frozen_far _ (by simpa using Ej) (fun e=>HN.out e.symm)];exact f0))
 all_goals
  go_end0;have cg:(s.extract 0 k).size=k:=by simp;omega
  rw[cg]at nE rD;refine⟨rfl,_,Qf HP.out (n:=r.length+k) (by rw[<-HT.out,aN];simp;omega) ?_ ⟨gR.os,gR.tape,gR.output,gR.size,gR.block⟩ rD⟩;rw[<-HT.out,zT];exact nE
theorem QU(p:Nat)(dr:Bool)(kv:Value)(r:Bs)(w:World)(F:Ft)(h:(aa (EA p dr kv) (KO kv r)).holds w F)(hr:r.length<=81):Calls prog 51 #[pt p] w fun e w'=>e= .returned (bs r)∧ ∃IP,Goes (aa (EA p dr IP) (KO IP [])) w F w':=by
 obtain⟨hb,a8,cC,_⟩:=tU h;have c0:w.cell? ⟨p,0,none⟩=some kv:=by simp only[World.cell?,hb];rfl
 have f0:w.frozen? ⟨p,0,none⟩=false:=by simp only[World.frozen?,hb];simp
 obtain⟨ao,cp,rfl,hcp,bI⟩:=uh a8;have ade:(convert 35 9 (.slice ao r.length cp)).run prog w= .ok (.string ⟨r.toArray⟩) w:=by
  rcases Nat.eq_zero_or_pos r.length with h0|h0
  ·have X0:r= []:=List.eq_nil_of_length_eq_zero h0;subst X0;rcases a8.2 with⟨h,_⟩|⟨g,cap,cur,h,_⟩
   ·rw[h];rw[run_convert_bytes_string w _ _ _ none 0 0 underlying35 underlying5 underlying9];rfl
   ·rw[h];exact run_convert_bytes_back w _ _ _ ⟨g,0,none⟩ cap [] underlying35 underlying5 underlying9 (fun j hj=>absurd hj (by simp))
  ·obtain⟨g,rfl⟩:=bI h0;refine run_convert_bytes_back w _ _ _ ⟨g,0,none⟩ cp r underlying35 underlying5 underlying9 (fun j hj=> ?_);have h:=a8.cells (g:=g) rfl j (.int .u8 (r[j].toNat:Int)) (by simp[pO,List.getElem?_eq_getElem hj]);exact h
 have ady:(r.length:Int)<=(cp:Int):=by omega
 have HF:Hid (Goes (aa (EA p dr (.slice ao 0 cp)) (KO (.slice ao 0 cp) [])) w F (w.setCell ⟨p,0,none⟩ (.slice ao 0 cp))):=
  Qf h (n:=0) rfl (M7 a8) ⟨rfl,rfl,rfl,ae _,fun _ _ _=>rfl⟩ (.inl (by cases ao<;>rfl))
 clear h hb cC a8 bI;unfold pt bs;go_enter func51,ntmps51;go_wp2;go_ret;exact⟨rfl,_,HF.out⟩
theorem Ji(p:Nat)(dr:Bool)(kv:Value)(r:Bs)(w:World)(F:Ft)(h:(aa (EA p dr kv) (KO kv r)).holds w F)(hr:r.length<=81):Calls prog 91 #[pt p] w fun e w'=>e= .returned (.bool (decide (r= [])))∧w'=w:=by
 obtain⟨hb,a8,cC,_⟩:=tU h;have c0:w.cell? ⟨p,0,none⟩=some kv:=by simp only[World.cell?,hb];rfl
 obtain⟨ao,cp,rfl,hcp,bI⟩:=uh a8;have HB:Hid (((r.length:Int)==0)=decide (r= [])):=by
  show _=_;cases r with
  |nil=>rfl
  |cons a l=>simp;omega
 clear h hb cC a8 bI;unfold pt;go_enter func91,ntmps91;go_wp2;go_ret;exact⟨bJ.cO HB.out,rfl⟩
end Pj
namespace Pj
open Go.RowKit aM Mc bJ
attribute [local go_sem] ag ar
section
variable{base x tb:Nat}{g:Gh}{cn:List (Int×Nat×Bs)}{s:St}{w w':World}{F:Ft}
theorem Bh(s:St)(c:Int):c∈(s.conn c).aq.map (·.n):=by
 unfold St.conn;split
 ·rename_i h;obtain⟨y,hy,e⟩:=List.any_eq_true.1 h;exact aA.2 ⟨y,hy,by simpa using e⟩
 ·exact aA.2 ⟨_,List.mem_append_right _ (cY.2 rfl),rfl⟩
theorem ny(T:Tabs base w)(h:(stA base x tb g cn s).holds w F)(hi:Inv s)(hz:s.sz<=16776000)(c:Int)(hc:I6 c):Calls prog 47 #[pt x, .int .i64 c] w fun e w'=> ∃p b NP,e= .returned (pt p)∧(c,p,b)∈NP∧((NP=cn∧(c,p,b)∈cn)∨(c∉cn.map (·.1)∧b= []∧NP=cn++ [(c,p, [])]))∧Goes (stA base x tb g NP (s.conn c)) w F w':=by
 by_cases hm:c∈cn.map (·.1)
 ·obtain⟨⟨c',p,b⟩,hk,rfl⟩:=aA.1 hm;refine(vM h hc hk).mono ?_;rintro e w'⟨rfl,rfl⟩;refine⟨p,b,cn,rfl,hk, .inl ⟨rfl,hk⟩, ?_⟩;exact CF (Goes.refl h) (St.fc c').2.2.2.2.1 (fun j hj=>hj.conn c')
 ·obtain⟨j,r1,r2,r3,hF,hh⟩:=h;have wf:=fI r1 hi (by omega);have hn:c∉j.bT.map (·.n):=by
   intro Eg;apply hm;rw[<-r3];unfold jx;rw[aG];exact Eg
  obtain⟨cm,w2,c6,R8,od,Iw,hg⟩:=Yn hh wf.b8 c hc hn 0;have HG:Hid (Goes (stA base x tb g (cn++ [(c,w.heap.size, [])]) (s.conn c)) w F w2):=by
   refine iD (s':=s.conn c) T hF ((r1.conn c).kept c w.heap.size hn (Bh s c)) r2 ?_ ?_
   ·unfold jx at*;dsimp only;rw[aH,r3];rfl
   ·rw[(St.fc c).2.2.2.2.1];exact hg
  have adl:(Instr.mapUpdate 81 (.map (some cm)) (.int .i64 c) (pt w.heap.size)).run prog (w.alloc (.cells #[.slice none 0 0, .bool false] 107))= .ok () w2:=Iw;have HM:=hide hm;clear hh wf r1 r2 r3 hg Iw hm hn hi hz;unfold pt at*;go_enter func47,ntmps47;go_wp2;go_ret;exact⟨_, [],_,rfl,List.mem_append_right _ (cY.2 rfl), .inr ⟨HM.out,rfl,rfl⟩,HG.out⟩
end
end Pj
namespace bJ
open Go.RowKit
attribute [local go_sem] aL.ag aL.ar
variable{base:Nat}{dz:World}
theorem take_any(L:kE base dz)(q:Nat)(k:List UInt8)(r:List (List UInt8))(ao:Option Addr)(a cap:Nat)(w:World)(hb:Below base dz w)(hB:base<=w.heap.size)(Ba:base<=q)(jm:w.heap[q]?=some (.cells (cs0 k) 149 (0,0)))(bI:0<r.length->ao=some ⟨a,1,none⟩∧a<w.heap.size∧a≠q)(mi: ∀x∈r,x.length<=4194304)(gS:r.length<=4194304)(pJ: ∀i (h:i<r.length),w.cell? ⟨a,1+i,none⟩=some (.string ⟨(r[i]'h).toArray⟩)):Calls prog 134 #[.pointer (some ⟨q,0,none⟩), .slice ao r.length cap] w (tq q k r w):=by
 cases h0:(k== [112,117,108,108])
 ·cases h1:(k== [98,101,97,116])
  ·cases h2:(k== [100,114,97,105,110])
   ·cases h3:(k== [99,97,110])
    ·cases h4:(k== [102,97,105,108])
     ·cases h5:(k== [115,117,98])
      ·cases h6:(k== [100,111,110,101])
       ·exact JH q k r ao cap w jm h0 h1 h2 h3 h4 h5 h6
       ·exact Nr L q k r ao a cap w hb hB Ba jm bI mi gS pJ h0 h1 h2 h3 h4 h5 h6
      ·exact Ry L q k r ao a cap w hb hB Ba jm bI mi gS pJ h0 h1 h2 h3 h4 h5
     ·exact Ns L q k r ao a cap w hb hB Ba jm bI mi gS pJ h0 h1 h2 h3 h4
    ·exact Rx L q k r ao a cap w hb hB Ba jm bI mi gS pJ h0 h1 h2 h3
   ·exact JG q k r ao a cap w jm bI mi gS pJ h0 h1 h2
  ·exact Nq q k r ao a cap w jm bI mi gS pJ h0 h1
 ·exact Nt q k r ao a cap w jm bI mi gS pJ h0
def aac(l:List UInt8)(w:World)(e:Ending)(w':World):Prop:= ∃M:Mg,e= .returned (.tuple #[.agg M.cs, .bool (dJ l).2])∧((dJ l).2=true->M=(dJ l).1)∧Below w.heap.size w w'
theorem MU(L:kE base dz)(s:ByteArray)(w:World)(hs:s.size<=4194304)(hb:Below base dz w)(hB:base<=w.heap.size):Calls prog 88 #[.string s] w (aac s.data.toList w):=by
 obtain⟨k,r,hw⟩: ∃k r,bW 32 s.data.toList=k::r:=by
  cases h:bW 32 s.data.toList with
  |nil=>exact absurd h (BH _ _)
  |cons k r=>exact⟨k,r,rfl⟩
 have jn:=cut_small (c:=32) hs;rw[hw]at jn;have mi: ∀x∈r,x.length<=4194304:=fun x hx=>jn x (bt _ hx);have gS:r.length<=4194304:=by
  have h1:=(tK 32 s.data.toList).1;have h2:(bW 32 s.data.toList).length=(mV 32 s.data.toList).1.length+1:=by unfold bW;simp
  rw[hw]at h2;have h3:s.data.toList.length=s.size:=by simp
  simp at h2;omega
 have eR:dJ s.data.toList=aT (k::r):=by unfold dJ;rw[hw]
 have HSP:Hid (Calls prog 133 #[.string s, .string ⟨#[32]⟩] (w.alloc (.cells #[.string ⟨#[]⟩, .int .i64 0, .int .i64 0, .string ⟨#[]⟩, .string ⟨#[]⟩] 149)) fun e w2=>e= .returned (.slice (some ⟨w.heap.size+1,0,none⟩) (r.length+1) (r.length+1))∧w2.cell? ⟨w.heap.size+1,0,none⟩=some (.string ⟨k.toArray⟩)∧w2.heap.size=w.heap.size+2∧
   Hid (Below w.heap.size w w2∧w2.heap[w.heap.size]?=some (.cells #[.string ⟨#[]⟩, .int .i64 0, .int .i64 0, .string ⟨#[]⟩, .string ⟨#[]⟩] 149 (0,0))∧w2.heap[w.heap.size+1]?=some (.cells (strs (k::r)).toArray 9 (0,0)))):=by
  have b1:Below w.heap.size w (w.alloc (.cells #[.string ⟨#[]⟩, .int .i64 0, .int .i64 0, .string ⟨#[]⟩, .string ⟨#[]⟩] 149)):=(ah _ _).alloc (ae _) _;have z1:=heap_alloc_new w (.cells #[.string ⟨#[]⟩, .int .i64 0, .int .i64 0, .string ⟨#[]⟩, .string ⟨#[]⟩] 149);have s1:(w.alloc (.cells #[.string ⟨#[]⟩, .int .i64 0, .int .i64 0, .string ⟨#[]⟩, .string ⟨#[]⟩] 149)).heap.size=w.heap.size+1:=by simp
  generalize w.alloc (.cells #[.string ⟨#[]⟩, .int .i64 0, .int .i64 0, .string ⟨#[]⟩, .string ⟨#[]⟩] 149)=w1 at*;have h:=L.split s w1 hs (hb.trans (b1.mono hB));rw[hw]at h;show Calls _ _ _ _ _;refine h.mono ?_;rintro e w2⟨rfl,rfl⟩;have b2:Below w1.heap.size w1 (w1.alloc (.cells (strs (k::r)).toArray 9)):=(ah _ _).alloc (ae _) _;have z2:=heap_alloc_new w1 (.cells (strs (k::r)).toArray 9);rw[s1]at z2;refine⟨by rw[s1];rfl,by simp only[World.cell?,z2];rfl,by simp;omega,b1.trans (b2.mono b1.size), ?_,z2⟩;rw[b2.block w.heap.size (by omega)];exact z1
 have Hk:Hid (∀w2,w2.heap.size=w.heap.size+2->(Below w.heap.size w w2∧w2.heap[w.heap.size]?=some (.cells #[.string ⟨#[]⟩, .int .i64 0, .int .i64 0, .string ⟨#[]⟩, .string ⟨#[]⟩] 149 (0,0))∧w2.heap[w.heap.size+1]?=some (.cells (strs (k::r)).toArray 9 (0,0)))-> ∀ao cap,(0<r.length->ao=some ⟨w.heap.size+1,1,none⟩)->
   Calls prog 134 #[.pointer (some ⟨w.heap.size+2,0,none⟩), .slice ao r.length cap] (w2.alloc (.cells (cs0 k) 149)) fun e w5=>e= .returned (.bool (aT (k::r)).2)∧Below w.heap.size w w5∧w.heap.size<w5.heap.size∧w5.heap[w.heap.size]?=some (.cells #[.string ⟨#[]⟩, .int .i64 0, .int .i64 0, .string ⟨#[]⟩, .string ⟨#[]⟩] 149 (0,0))∧((aT (k::r)).2=true->w5.heap[w.heap.size+2]?=some (.cells (aT (k::r)).1.cs 149 (0,0)))):=fun w2 s2 hw2 ao cap bI=>by
  obtain⟨b2,z0,z1⟩:=hw2;have b3:Below w2.heap.size w2 (w2.alloc (.cells (cs0 k) 149)):=(ah _ _).alloc (ae _) _;have z3:=heap_alloc_new w2 (.cells (cs0 k) 149);have s3:(w2.alloc (.cells (cs0 k) 149)).heap.size=w2.heap.size+1:=by simp
  rw[s2]at z3;generalize w2.alloc (.cells (cs0 k) 149)=w3 at*;have b03:=b2.trans (b3.mono b2.size);have z0':w3.heap[w.heap.size]?=_:=(b3.block w.heap.size (by omega)).trans z0;have z1':w3.heap[w.heap.size+1]?=_:=(b3.block (w.heap.size+1) (by omega)).trans z1;refine(take_any L (w.heap.size+2) k r ao (w.heap.size+1) cap w3 (hb.trans (b03.mono hB)) (by omega) (by omega) z3 (fun h=>⟨bI h,by omega,by omega⟩) mi gS (fun i hi=> ?_)).mono ?_
  ·simp only[World.cell?,z1'];show(strs (k::r)).toArray[1+i]?=_;unfold strs;rw[Nat.add_comm];simp[hi]
  ·rintro e w5⟨rfl,ho,hp⟩;have h5:=ho.size;refine⟨rfl,⟨ho.os.trans b03.os,ho.tape.trans b03.tape,ho.output.trans b03.output,by omega,fun j hj=> ?_⟩,by omega, ?_,hp⟩
   ·rw[ho.block j (by omega) (by omega)];exact b03.block j hj
   ·rw[ho.block w.heap.size (by omega) (by omega)];exact z0'
 have Vv:Hid (dJ s.data.toList=aT (k::r)):=eR;clear eR hw jn mi L hb;cases BN:(aT (k::r)).2
 ·rw[BN]at Hk;have Wv:Hid ((aT (k::r)).2=false):=BN;clear BN;generalize og:r.length=rl at*;clear og;unfold cs0 at Hk;go_enter func88,ntmps88;go_wp2_with fail;refine HSP.out.mono ?_;rintro e w2⟨rfl,c0,s2,HW2⟩;have SL:Hid (∀ao cap,_):=Hk.out w2 s2 HW2.out;clear HSP Hk HW2;go_wp2_with fail
  ·rename_i h;subst h;refine(SL.out (some ⟨w.heap.size+1,0,none⟩) 0 (fun h=>absurd h (by omega))).mono ?_;rintro e w5⟨rfl,uI,hl5,z5,_⟩;have r0:w5.cell? ⟨w.heap.size,0,none⟩=some (.string ⟨#[]⟩):=by simp only[World.cell?,z5];rfl
   have f0:w5.frozen? ⟨w.heap.size,0,none⟩=false:=by simp only[World.frozen?,z5];simp
   have r1:w5.cell? ⟨w.heap.size,1,none⟩=some (.int .i64 0):=by simp only[World.cell?,z5];rfl
   have f1:w5.frozen? ⟨w.heap.size,1,none⟩=false:=by simp only[World.frozen?,z5];simp
   have r2:w5.cell? ⟨w.heap.size,2,none⟩=some (.int .i64 0):=by simp only[World.cell?,z5];rfl
   have f2:w5.frozen? ⟨w.heap.size,2,none⟩=false:=by simp only[World.frozen?,z5];simp
   have r3:w5.cell? ⟨w.heap.size,3,none⟩=some (.string ⟨#[]⟩):=by simp only[World.cell?,z5];rfl
   have f3:w5.frozen? ⟨w.heap.size,3,none⟩=false:=by simp only[World.frozen?,z5];simp
   have r4:w5.cell? ⟨w.heap.size,4,none⟩=some (.string ⟨#[]⟩):=by simp only[World.cell?,z5];rfl
   have f4:w5.frozen? ⟨w.heap.size,4,none⟩=false:=by simp only[World.frozen?,z5];simp
   have Wu:Hid (Below w.heap.size w w5):=uI;clear z5 uI SL;go_wp2;refine bodyPost_ret (v:= .tuple #[.agg #[.string ⟨#[]⟩, .int .i64 0, .int .i64 0, .string ⟨#[]⟩, .string ⟨#[]⟩], .bool false]) (by simp[results,results88,go_sem, *]) rfl ⟨⟨[],0,0, [], []⟩,by rw[Vv.out,Wv.out];rfl,fun h=>(by rw[Vv.out,Wv.out]at h;cases h), ?_⟩;exact fL Wu.out _ _ _ _ _
  ·refine(SL.out (some ⟨w.heap.size+1,1,none⟩) rl (fun _=>rfl)).mono ?_;rintro e w5⟨rfl,uI,hl5,z5,_⟩;have r0:w5.cell? ⟨w.heap.size,0,none⟩=some (.string ⟨#[]⟩):=by simp only[World.cell?,z5];rfl
   have f0:w5.frozen? ⟨w.heap.size,0,none⟩=false:=by simp only[World.frozen?,z5];simp
   have r1:w5.cell? ⟨w.heap.size,1,none⟩=some (.int .i64 0):=by simp only[World.cell?,z5];rfl
   have f1:w5.frozen? ⟨w.heap.size,1,none⟩=false:=by simp only[World.frozen?,z5];simp
   have r2:w5.cell? ⟨w.heap.size,2,none⟩=some (.int .i64 0):=by simp only[World.cell?,z5];rfl
   have f2:w5.frozen? ⟨w.heap.size,2,none⟩=false:=by simp only[World.frozen?,z5];simp
   have r3:w5.cell? ⟨w.heap.size,3,none⟩=some (.string ⟨#[]⟩):=by simp only[World.cell?,z5];rfl
   have f3:w5.frozen? ⟨w.heap.size,3,none⟩=false:=by simp only[World.frozen?,z5];simp
   have r4:w5.cell? ⟨w.heap.size,4,none⟩=some (.string ⟨#[]⟩):=by simp only[World.cell?,z5];rfl
   have f4:w5.frozen? ⟨w.heap.size,4,none⟩=false:=by simp only[World.frozen?,z5];simp
   have Wu:Hid (Below w.heap.size w w5):=uI;clear z5 uI SL;go_wp2;refine bodyPost_ret (v:= .tuple #[.agg #[.string ⟨#[]⟩, .int .i64 0, .int .i64 0, .string ⟨#[]⟩, .string ⟨#[]⟩], .bool false]) (by simp[results,results88,go_sem, *]) rfl ⟨⟨[],0,0, [], []⟩,by rw[Vv.out,Wv.out];rfl,fun h=>(by rw[Vv.out,Wv.out]at h;cases h), ?_⟩;exact fL Wu.out _ _ _ _ _
 ·rw[BN]at Hk;have Wv:Hid ((aT (k::r)).2=true):=BN;clear BN;generalize og:r.length=rl at*;clear og;unfold cs0 at Hk;generalize hM:(aT (k::r)).1=M at*;have HM:Hid ((aT (k::r)).1=M):=hM;clear hM;go_enter func88,ntmps88;go_wp2_with fail;refine HSP.out.mono ?_;rintro e w2⟨rfl,c0,s2,HW2⟩;have SL:Hid (∀ao cap,_):=Hk.out w2 s2 HW2.out;clear HSP Hk HW2;go_wp2_with fail
  ·rename_i h;subst h;refine(SL.out (some ⟨w.heap.size+1,0,none⟩) 0 (fun h=>absurd h (by omega))).mono ?_;rintro e w5⟨rfl,uI,hl5,z5,q5⟩;have q5:=q5 (by first|rfl|trivial);have r0:w5.cell? ⟨w.heap.size,0,none⟩=some (.string ⟨#[]⟩):=by simp only[World.cell?,z5];rfl
   have f0:w5.frozen? ⟨w.heap.size,0,none⟩=false:=by simp only[World.frozen?,z5];simp
   have r1:w5.cell? ⟨w.heap.size,1,none⟩=some (.int .i64 0):=by simp only[World.cell?,z5];rfl
   have f1:w5.frozen? ⟨w.heap.size,1,none⟩=false:=by simp only[World.frozen?,z5];simp
   have r2:w5.cell? ⟨w.heap.size,2,none⟩=some (.int .i64 0):=by simp only[World.cell?,z5];rfl
   have f2:w5.frozen? ⟨w.heap.size,2,none⟩=false:=by simp only[World.frozen?,z5];simp
   have r3:w5.cell? ⟨w.heap.size,3,none⟩=some (.string ⟨#[]⟩):=by simp only[World.cell?,z5];rfl
   have f3:w5.frozen? ⟨w.heap.size,3,none⟩=false:=by simp only[World.frozen?,z5];simp
   have r4:w5.cell? ⟨w.heap.size,4,none⟩=some (.string ⟨#[]⟩):=by simp only[World.cell?,z5];rfl
   have f4:w5.frozen? ⟨w.heap.size,4,none⟩=false:=by simp only[World.frozen?,z5];simp
   have m0:w5.cell? ⟨w.heap.size+2,0,none⟩=some (.string ⟨M.kind.toArray⟩):=by simp only[World.cell?,q5];rfl
   have m1:w5.cell? ⟨w.heap.size+2,1,none⟩=some (.int .i64 M.id):=by simp only[World.cell?,q5];rfl
   have m2:w5.cell? ⟨w.heap.size+2,2,none⟩=some (.int .i64 M.bS):=by simp only[World.cell?,q5];rfl
   have m3:w5.cell? ⟨w.heap.size+2,3,none⟩=some (.string ⟨M.ten.toArray⟩):=by simp only[World.cell?,q5];rfl
   have m4:w5.cell? ⟨w.heap.size+2,4,none⟩=some (.string ⟨M.txt.toArray⟩):=by simp only[World.cell?,q5];rfl
   have Wu:Hid (Below w.heap.size w w5):=uI;clear z5 q5 uI SL;go_wp2;refine bodyPost_ret (v:= .tuple #[.agg M.cs, .bool true]) (by simp[results,results88,go_sem,Mg.cs, *]) rfl ⟨M,by rw[Vv.out,Wv.out],fun _=>(by rw[Vv.out,HM.out]), ?_⟩;exact fL Wu.out _ _ _ _ _
  ·refine(SL.out (some ⟨w.heap.size+1,1,none⟩) rl (fun _=>rfl)).mono ?_;rintro e w5⟨rfl,uI,hl5,z5,q5⟩;have q5:=q5 (by first|rfl|trivial);have r0:w5.cell? ⟨w.heap.size,0,none⟩=some (.string ⟨#[]⟩):=by simp only[World.cell?,z5];rfl
   have f0:w5.frozen? ⟨w.heap.size,0,none⟩=false:=by simp only[World.frozen?,z5];simp
   have r1:w5.cell? ⟨w.heap.size,1,none⟩=some (.int .i64 0):=by simp only[World.cell?,z5];rfl
   have f1:w5.frozen? ⟨w.heap.size,1,none⟩=false:=by simp only[World.frozen?,z5];simp
   have r2:w5.cell? ⟨w.heap.size,2,none⟩=some (.int .i64 0):=by simp only[World.cell?,z5];rfl
   have f2:w5.frozen? ⟨w.heap.size,2,none⟩=false:=by simp only[World.frozen?,z5];simp
   have r3:w5.cell? ⟨w.heap.size,3,none⟩=some (.string ⟨#[]⟩):=by simp only[World.cell?,z5];rfl
   have f3:w5.frozen? ⟨w.heap.size,3,none⟩=false:=by simp only[World.frozen?,z5];simp
   have r4:w5.cell? ⟨w.heap.size,4,none⟩=some (.string ⟨#[]⟩):=by simp only[World.cell?,z5];rfl
   have f4:w5.frozen? ⟨w.heap.size,4,none⟩=false:=by simp only[World.frozen?,z5];simp
   have m0:w5.cell? ⟨w.heap.size+2,0,none⟩=some (.string ⟨M.kind.toArray⟩):=by simp only[World.cell?,q5];rfl
   have m1:w5.cell? ⟨w.heap.size+2,1,none⟩=some (.int .i64 M.id):=by simp only[World.cell?,q5];rfl
   have m2:w5.cell? ⟨w.heap.size+2,2,none⟩=some (.int .i64 M.bS):=by simp only[World.cell?,q5];rfl
   have m3:w5.cell? ⟨w.heap.size+2,3,none⟩=some (.string ⟨M.ten.toArray⟩):=by simp only[World.cell?,q5];rfl
   have m4:w5.cell? ⟨w.heap.size+2,4,none⟩=some (.string ⟨M.txt.toArray⟩):=by simp only[World.cell?,q5];rfl
   have Wu:Hid (Below w.heap.size w w5):=uI;clear z5 q5 uI SL;go_wp2;refine bodyPost_ret (v:= .tuple #[.agg M.cs, .bool true]) (by simp[results,results88,go_sem,Mg.cs, *]) rfl ⟨M,by rw[Vv.out,Wv.out],fun _=>(by rw[Vv.out,HM.out]), ?_⟩;exact fL Wu.out _ _ _ _ _
end bJ
namespace Mc
open bJ
namespace St
variable{s:St}
def nr(s:St):List (Int×Bs):=s.aq.map (fun x:Cn=>(x.n,x.rest))
theorem Jy(c:Int)(t:Bs):(s.say c t).nr=s.nr:=rfl
theorem OJ(c:Int):(s.fJ c).nr=s.nr:=by
 unfold fJ;split
 ·exact cr (fun x:Cn=>x.n==c) (fun x:Cn=>{x with gone:=true}) (fun x:Cn=>(x.n,x.rest)) (fun _=>rfl) s.aq
 ·rfl
theorem qG(i:Nat):(s.aS i).nr=s.nr:=by
 unfold aS;split
 ·rw[OJ];rfl
 ·rfl
theorem Gf: ∀(f:Nat) (s:St) (id:Int),(stops f s id).nr=s.nr
 |0,_,_=>rfl
 |f+1,s,id=>by
  unfold stops;split
  ·rfl
  ·split
   ·rfl
   ·rw[Gf f,qG,Jy]
theorem xH(id:Int):(s.shut id).nr=s.nr:=Gf _ s id
theorem zx(id:Int)(f:Bool):(s.a6 id f).nr=s.nr:=by unfold a6;split<;>rfl
theorem xR(id:Int)(c:Bool):(s.again id c).nr=s.nr:=by
 unfold again;split
 ·rfl
 ·split
  ·rfl
  ·split
   ·rw[xH,Jy]
   ·rw[zx];split<;>rfl
theorem TD(c:Int)(ws:List Int)(k:Nat):(s.give c ws k).nr=s.nr:=by
 unfold give;split
 ·rfl
 ·split
  ·rfl
  ·split<;>rfl
theorem Bo: ∀(f:Nat) (s:St),(cS f s).nr=s.nr
 |0,_=>rfl
 |f+1,s=>by
  unfold cS;split
  ·rfl
  ·split
   ·rfl
   ·rw[Bo f,TD]
theorem zu:s.serve.nr=s.nr:=Bo _ _
theorem Nk(c:Int)(m:Mg):(s.bU c m).nr=s.nr:=by
 unfold bU;split
 ·rfl
 ·split
  ·rfl
  ·rw[zx];rfl
theorem Te(c:Int):(s.conn c).nr=s.nr∨(s.conn c).nr=s.nr++ [(c, [])]:=by
 unfold conn;split
 ·exact .inl rfl
 ·right;unfold nr;rw[aH];rfl
theorem EB: ∀(f:Nat) (s:St),(cV f s).nr=s.nr
 |0,_=>rfl
 |f+1,s=>by
  unfold cV;split
  ·rfl
  ·split
   ·rfl
   ·rw[EB f,xR,qG,Jy]
theorem L8(a:At):(s.bA a).nr=s.nr:=by
 unfold bA;split
 ·rfl
 ·split
  ·rw[zx];rfl
  ·rfl
theorem Kl: ∀(l:List At) (s:St),(l.foldl bA s).nr=s.nr
 | [],_=>rfl
 |a::l,s=>by rw[List.foldl_cons,Kl l,L8]
theorem Vh:s.tick.nr=s.nr:=by unfold tick;dsimp only;rw[zu];unfold eE;rw[Kl,EB];rfl
theorem sQ: ∀(f:Nat) (s:St) (i:Nat) (id c:Int),(bH f s i id c).nr=s.nr
 |0,_,_,_,_=>rfl
 |f+1,s,i,id,c=>by
  unfold bH;split
  ·rfl
  ·split
   ·rw[sQ f,qG]
   ·rw[sQ f]
theorem tG: ∀(f:Nat) (s:St) (c:Int),(aQ f s c).nr=s.nr
 |0,_,_=>rfl
 |f+1,s,c=>by
  unfold aQ;split
  ·rfl
  ·rw[tG f,xH,sQ]
theorem tE: ∀(f:Nat) (s:St) (c:Int),(aP f s c).nr=s.nr
 |0,_,_=>rfl
 |f+1,s,c=>by
  unfold aP;split
  ·rfl
  ·split
   ·rfl
   ·rw[tE f,xR,qG]
theorem OP(c:Int):(s.close c).nr=s.nr.filter fun y=>y.1 !=c:=by unfold close;dsimp only;rw[zu,tE,tG];unfold nr idle;dsimp only;rw[List.filter_map];rfl
theorem qX(d:Int):s.bG d=match s.nr.find? (fun y=>y.1==d)with|some y=>y.2|none=> []:=by unfold bG nr;rw[List.find?_map];have e:((fun y:Int×Bs=>y.1==d)∘fun x:Cn=>(x.n,x.rest))=fun x=>x.n==d:=rfl;rw[e];cases s.aq.find? (fun x=>x.n==d)<;>rfl
theorem rest_of{s':St}(h:s'.nr=s.nr)(d:Int):s'.bG d=s.bG d:=by rw[qX,qX,h]
theorem AP{c:Int}(h:c∈s.aq.map (·.n)):s.conn c=s:=by unfold conn;rw[if_pos];obtain⟨x,hx,e⟩:=aA.1 h;exact List.any_eq_true.2 ⟨x,hx,by simpa using e⟩
theorem abo(s:St):s.nr.map (·.1)=s.aq.map (·.n):=by unfold nr;rw[aG];rfl
theorem E2{c:Int}(h:c∈s.aq.map (·.n))(m:Mg):(s.message c m).nr=s.nr:=by
 have e:=AP h;unfold message;rw[e];split
 ·exact Nk c m
 split
 ·split
  ·rfl
  ·split
   ·rw[xH];rfl
   ·rfl
 split
 ·split
  ·rfl
  ·dsimp only;split<;>rfl
 split
 ·exact(by unfold nr;rfl)
 split
 ·split
  ·rfl
  ·split
   ·rfl
   ·rw[xH,qG];rfl
 split
 ·split
  ·rfl
  ·rw[xR,qG]
 split
 ·dsimp only;rw[OJ];exact cr (fun x:Cn=>x.n==c) (fun x:Cn=>{x with drains:=true}) (fun x:Cn=>(x.n,x.rest)) (fun _=>rfl) s.aq
 ·rfl
theorem KT{c:Int}(h:c∈s.aq.map (·.n))(l:Bs):(s.line c l).nr=s.nr:=by
 unfold line;split
 ·rw[zu,E2 h]
 ·rfl
theorem Lz(c d:Int):(s.conn c).bG d=s.bG d:=by
 rcases Te (s:=s) c with h|h
 ·exact rest_of h d
 ·rw[qX,qX,h,List.find?_append];cases hf:s.nr.find? (fun y=>y.1==d)with
  |some y=>rfl
  |none=>
   by_cases e:c=d
   ·subst e;simp
   ·simp[e]
theorem JB{c:Int}(r:Bs)(d:Int)(hc:c∈s.aq.map (·.n)):(s.di c r).bG d=if d=c then r else s.bG d:=by
 unfold di bG;dsimp only;have hs: ∀l:List Cn,c∈l.map (·.n)->(match (aK (fun x:Cn=>x.n==c) (fun x=>{x with rest:=r}) l).find? (fun x=>x.n==d)with|some x=>x.rest|none=> [])=if d=c then r else(match l.find? (fun x=>x.n==d)with|some x=>x.rest|none=> []):=by
  intro l
  induction l with
  |nil=>intro h;cases h
  |cons y l ih=>
   intro h;unfold aK;by_cases e:(y.n==c)=true
   ·rw[if_pos e];have e':y.n=c:=by simpa using e
    rw[List.find?_cons,List.find?_cons];by_cases ed:d=c
    ·subst ed;simp[e']
    ·have:(y.n==d)=false:=by
      rw[e'];exact beq_eq_false_iff_ne.2 (fun h=>ed h.symm)
     simp[this,ed]
   ·rw[if_neg e];have hm:c∈l.map (·.n):=by
     rw[List.map_cons,List.mem_cons]at h;rcases h with h|h
     ·exact absurd (by simpa using h.symm) e
     ·exact h
    have Mt:=ih hm;rw[List.find?_cons,List.find?_cons];by_cases ed:(y.n==d)=true
    ·rw[ed];have:d≠c:=fun h=>e (by rw[<-h];exact ed);simp[this]
    ·have ed':(y.n==d)=false:=by simpa using ed
     rw[ed'];exact Mt
 exact hs s.aq hc
