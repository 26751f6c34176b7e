import Derived.Test.YtffamlbkmjmipaaGreatDoorB36
import Derived.Test.YtffamlbkmjmipaaGreatDoorB37
set_option maxHeartbeats 8000000
set_option maxRecDepth 100000
namespace Go.Proofs.YtffamlbkmjmipaaGreatDoor
open _root_.Go.Proofs.Tryz
namespace Pj
open Go.RowKit aM Mc bJ
attribute [local go_sem] ag ar
theorem UJ(a:Int)(w:World):Calls prog 152 #[.int .i64 a] w fun e w'=>e= .returned (.bool false)∧w'=w:=by go_enter func152,ntmps152;go_wp2;go_ret;exact⟨by simp,rfl⟩
theorem J8(a b:Int)(w:World):Calls prog 116 #[.int .i64 a, .int .i64 b] w fun e w'=>e= .returned (.int .i64 (Lib.compareInt a b))∧w'=w:=by
 have HN:=hide (fun a w=>UJ a w);unfold Lib.compareInt;by_cases h1:a<b
 ·have h1':decide (a<b)=true:=by simpa using h1
  rw[if_pos h1];go_enter func116,ntmps116;go_wp2_with (first|(go_at_call 152;go_must(refine(HN.out _ _).mono ?_;rintro e w1⟨rfl,rfl⟩)));go_ret;exact⟨rfl,rfl⟩
 ·rw[if_neg h1];have h1':decide (a<b)=false:=by simpa using h1
  by_cases h2:a>b
  ·rw[if_pos h2];have h2':decide (a>b)=true:=by simpa using h2
   go_enter func116,ntmps116;go_wp2_with (first|(go_at_call 152;go_must(refine(HN.out _ _).mono ?_;rintro e w1⟨rfl,rfl⟩)));go_ret;exact⟨rfl,rfl⟩
  ·rw[if_neg h2];have h2':decide (a>b)=false:=by simpa using h2
   go_enter func116,ntmps116;go_wp2_with (first|(go_at_call 152;go_must(refine(HN.out _ _).mono ?_;rintro e w1⟨rfl,rfl⟩)));go_ret;exact⟨rfl,rfl⟩
theorem Lr(p q:Nat)(a b:Int)(w:World)(hp:w.cell? ⟨p,3,none⟩=some (.int .i64 a))(hq:w.cell? ⟨q,3,none⟩=some (.int .i64 b)):Calls prog 115 #[pt p,pt q] w fun e w'=>e= .returned (.int .i64 (Lib.compareInt a b))∧ ∃n,w'=w.drewN n:=by
 have HC:Hid (∀w,Calls prog 116 #[.int .i64 a, .int .i64 b] w fun e w'=>e= .returned (.int .i64 (Lib.compareInt a b))∧w'=w):=fun w=>J8 a b w;unfold pt;generalize Lib.compareInt a b=r at*;go_enter func115,ntmps115;go_wp2_with fail;go_region_held3 (fun w'=>w'.cell? ⟨p,3,none⟩=some (.int .i64 a)∧w'.cell? ⟨q,3,none⟩=some (.int .i64 b)) (go_keep)
  (first|(go_at_call 116;go_must(refine(HC.out _).mono ?_;rintro e w1⟨rfl,rfl⟩)))
 all_goals go_wp2;go_ret;exact⟨rfl,_,rfl⟩
theorem OH(p q:Nat)(a b:Int)(w:World)(hp:w.cell? ⟨p,0,none⟩=some (.int .i64 a))(hq:w.cell? ⟨q,0,none⟩=some (.int .i64 b)):Calls prog 123 #[pt p,pt q] w fun e w'=>e= .returned (.int .i64 (Lib.compareInt a b))∧ ∃n,w'=w.drewN n:=by
 have HC:Hid (∀w,Calls prog 116 #[.int .i64 a, .int .i64 b] w fun e w'=>e= .returned (.int .i64 (Lib.compareInt a b))∧w'=w):=fun w=>J8 a b w;unfold pt;generalize Lib.compareInt a b=r at*;go_enter func123,ntmps123;go_wp2_with fail;go_region_held3 (fun w'=>w'.cell? ⟨p,0,none⟩=some (.int .i64 a)∧w'.cell? ⟨q,0,none⟩=some (.int .i64 b)) (go_keep)
  (first|(go_at_call 116;go_must(refine(HC.out _).mono ?_;rintro e w1⟨rfl,rfl⟩)))
 all_goals go_wp2;go_ret;exact⟨rfl,_,rfl⟩
theorem wx{base x tb:Nat}{g:Gh}{cn:List (Int×Nat×Bs)}{s:St}{w w1:World}{F:Ft}(h:(stA base x tb g cn s).holds w F)(hi:Inv s)(hz:s.sz<=16777000)(hB:Below w.heap.size w w1)(p:At->Bool)(gf:FuncId)(lb:Array Value)(eg:Enters prog gf)(hp:SP s.af (fun a=>g.ap (key a)) p gf lb w1):Calls prog 68 #[pt x, .func (.func gf) #[] lb] w1 fun e w'=> ∃v',e= .returned v'∧Below w.heap.size w w'∧Goes (aa (stA base x tb g cn s) (rowA 127 1 v' (s.af.filter p).length ((s.af.filter p).map fun a=>pt (g.ap (key a))))) w F w':=by
 have h0:=h;obtain⟨j,r1,r2,r3,hF,hh⟩:=h;obtain⟨G,H,hj,Al,_,_⟩:=hh;have wf:=fI r1 hi hz;obtain⟨v,hv⟩:=id hj;have vd:x<w.heap.size:=(yN hv).2.2;have c11:w1.cell? ⟨x,11,none⟩=some v.lv:=by rw[cL hB vd];exact(yN hv).1 11
 obtain⟨⟨Gl,xw⟩,rD⟩:=Qc hv;obtain⟨ao,cap,LH⟩:=aX (Goes.refl xw);rw[LH]at c11 xw;have l9:=wf.b4;have hLl:(j.hp.filter p).length<=j.hp.length:=List.length_filter_le ..;have Da:Hid (∀v' w2,Goes (rowA 127 1 v' (j.hp.filter p).length ((j.hp.filter p).map fun a=>pt (g.ap (key a)))) w1 (fun _=>False) w2->Calls prog 114 #[v', .func (.func 115) #[] #[]] w2 fun e w'=>e= .returned (.tuple #[])∧Hid (Below w.heap.size w w'∧Goes (aa (stA base x tb g cn s) (rowA 127 1 v' (s.af.filter p).length ((s.af.filter p).map fun a=>pt (g.ap (key a))))) w F w')):=fun v' w2 hg=>by
  have aci:=jG hg;have LY:Below w.heap.size w w2:=iz hB (aci.mono hB.size);obtain⟨F2,eX,o2,n2⟩:=hg;have hcell: ∀a∈j.hp.filter p,∃k,w.heap[g.ap (key a)]?=some (.cells (fW g a k) 126 (0,0)):=fun a ha=>by obtain⟨i,dM,rfl⟩:=List.mem_iff_getElem.1 (aR.1 ha).1;exact⟨i,rD i dM⟩
  have ay: ∀a∈j.hp.filter p,g.ap (key a)<w.heap.size:=fun a ha=>by obtain⟨k,hk⟩:=hcell a ha;exact(cT.1 hk).1
  have acS:(s.af.filter p).Pairwise fun a b=>g.sr (key a)<g.sr (key b):=by have:=r1.FO;rw[List.pairwise_map]at this;exact this.sublist List.filter_sublist
  refine(FU sfA 127 v' (j.hp.filter p) (s.af.filter p) (fun a=>g.ap (key a)) (fun a=>g.sr (key a)) 115 w2 F2 (enters_of func115 (by kernel_rfl) rfl) eX (r1.hp.filter p) acS (by omega) (fun a ha=> ?_) (fun w3 rU a ha b hb=> ?_)).mono ?_
  ·have:=ay a ha;refine⟨fun hk=> ?_,bP this LY.size⟩;rcases n2 _ hk with e|e
   ·exact e
   ·have:=hB.size;omega
  ·have Xw: ∀c∈j.hp.filter p,w3.cell? ⟨g.ap (key c),3,none⟩=some (.int .i64 (g.sr (key c))):=fun c hc=>by
    obtain⟨k,hk⟩:=hcell c hc;have e1:w3.heap[g.ap (key c)]?=some (.cells (fW g c k) 126 (0,0)):=by rw[rU c hc,LY.block _ (ay c hc)];exact hk
    simp only[World.cell?,e1];rfl
   exact Lr _ _ _ _ w3 (Xw a ha) (Xw b hb)
  ·rintro e w'⟨rfl,mW⟩;have kI:=aF o2 n2 mW;have acm:=jG kI;exact⟨rfl,iz hB (acm.mono hB.size),tQ h0 hB kI⟩
 have Hb:Hid (Calls prog 78 #[.slice ao j.hp.length cap, .func (.func gf) #[] lb] w1 fun e w'=> ∃iw cM,e= .returned (.slice iw (j.hp.filter p).length cM)∧Hid (Goes (rowA 127 1 (.slice iw (j.hp.filter p).length cM) (j.hp.filter p).length ((j.hp.filter p).map fun a=>pt (g.ap (key a)))) w1 (fun _=>False) w')):=by refine(xT _ j.hp (fun a=>g.ap (key a)) p gf lb eg w1 Gl (Mr.au xw hB) (fun wr hr y hy=>hp wr hr y (r1.hp.subset hy)) (by omega)).mono ?_;rintro e w'⟨v',rfl,hg⟩;obtain⟨iw,cM,rfl⟩:=aX hg;exact⟨iw,cM,rfl,hg⟩
 clear h0 hj Al hv rD xw wf LH r1 r2 r3 hp;unfold pt;generalize Ae:(j.hp.filter p).length=n1 at*;generalize j.hp.length=nl at*;go_enter func68,ntmps68;go_wp2_with (first
  |(go_at_call 78;go_must(refine Hb.out.mono ?_;rintro e w2⟨iw,cM,rfl,HG⟩;have HS:=hide (Da.out _ _ HG.out)))
  |(go_at_call 114;go_must(refine HS.out.mono ?_;rintro e w3⟨rfl,HE⟩)))
 go_ret;exact⟨_,rfl,HE.out.1,HE.out.2⟩
