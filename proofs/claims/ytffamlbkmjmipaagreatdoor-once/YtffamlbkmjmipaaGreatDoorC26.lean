import Derived.Test.YtffamlbkmjmipaaGreatDoorC25
import Derived.Shelf.SlSortCmp.NoneTotal
set_option maxHeartbeats 8000000
set_option maxRecDepth 100000
namespace Go.Proofs.YtffamlbkmjmipaaGreatDoor
open _root_.Go.Proofs.Tryz
namespace Pj
open Go.RowKit aJ Mc Go.Sort
theorem uI{β:Type}{f:β->Int}: ∀{l2 l1:List β},l1.Perm l2->l1.Pairwise (fun a b=>f a<=f b)->l2.Pairwise (fun a b=>f a<f b)->l1=l2
 | [],l1,h,_,_=>h.eq_nil
 |b::l2, [],h,_,_=>absurd h.length_eq (by simp)
 |b::l2,a::l1,h,h1,h2=>by
  rw[List.pairwise_cons]at h1 h2;have rG:a=b:=by
   rcases List.mem_cons.1 (h.subset (bY ..))with e|e
   ·exact e
   ·have h3:=h2.1 a e;rcases List.mem_cons.1 (h.symm.subset (bY ..))with e'|e'
    ·exact e'.symm
    ·have:=h1.1 b e';omega
  subst rG;rw[uI (List.Perm.cons_inv h) h1.2 h2.2]
theorem Br(x y:Int):decide (Lib.compareInt x y<0)=decide (x<y):=by
 unfold Lib.compareInt;by_cases h1:x<y
 ·simp[h1]
 ·by_cases h2:y<x<;>simp[h1,h2]
theorem TR{β:Type}(ky:β->Int):SWO (ltOf fun a b=>Lib.compareInt (ky a) (ky b)) where
 irrefl x:=by unfold ltOf;rw[Br];simp
 trans x y z h1 h2:=by unfold ltOf at*;rw[Br]at*;simp at*;omega
 ntrans x y z h1 h2:=by unfold ltOf at*;rw[Br]at*;simp at*;omega
theorem Ed{ρ:Shelf.Ren}(L6:SlLaysF.n6 prog ρ){β:Type}(ty:TypeId)(v:Value)(L S:List β)(f:β->Nat)(ky:β->Int)(gg:FuncId)(w:World)(G:Ft)(eg:Enters prog gg)(h:(rowA ty 1 v L.length (L.map fun i=>pt (f i))).holds w G)(hp:L.Perm S)(hs:S.Pairwise fun a b=>ky a<ky b)(hl:L.length<=16777216)(hf: ∀a∈L,¬G (f a)∧f a<w.heap.size)(hc: ∀w1:World,(∀a∈L,w1.heap[f a]?=w.heap[f a]?)-> ∀a∈L,∀b∈L,Calls prog gg #[pt (f a),pt (f b)] w1 fun e w'=>e= .returned (.int .i64 (Lib.compareInt (ky a) (ky b)))∧ ∃q,w'=w1.drewN q):Calls prog (ρ.f 6) #[v, .func (.func gg) #[] #[]] w fun e w'=>e= .returned (.tuple #[])∧Goes (rowA ty 1 v S.length (S.map fun i=>pt (f i))) w G w':=by
 obtain⟨ao,cap,rfl,cX,bQ⟩:=Mr.cE h;cases L with
 |nil=>have e:=hp.nil_eq;subst e;refine(AnyF.slices_SortFunc_none (P:=prog) (ρ:=ρ) {L6 with} ao cap (.func (.func gg) #[] #[]) w).mono ?_;rintro e w'⟨rfl,rfl⟩;exact⟨rfl,Goes.refl h⟩
 |cons a0 L0=>
  obtain⟨b,off,rfl⟩:=bQ (by simp);generalize hL:a0::L0=L at*;have ha0:a0∈L:=by rw[<-hL];exact bY ..
  letI:Inhabited {a//a∈L}:=⟨⟨a0,ha0⟩⟩
  let enc:{a//a∈L}->Value:=fun y=>pt (f y.1)
  have eL:L.attach.map enc=L.map fun i=>pt (f i):=by show L.attach.map ((fun i=>pt (f i))∘Subtype.val)=_;rw[<-aB,List.attach_map_subtype_val]
  have hH0:=h;rw[<-eL]at hH0;have hH:Holds enc w b off L.attach.toArray:=row_holds hH0;have Nu:G b∧b<w.heap.size:=by
   rcases h.2 with⟨h0,_⟩|⟨g',rU,bP,cur,hv,hF,hg,_⟩
   ·cases h0
   ·cases hv;exact⟨(hF b).2 rfl,(cC.1 hg).1⟩
  have dc:L.attach.toArray.size=L.length:=by simp
  have aaK:CmpLays1 prog gg #[] enc (fun x y=>Lib.compareInt (ky x.1) (ky y.1)) b off L.attach.toArray.size w:=by refine CmpReads.lays (fun m os dk _ x y=> ?_);show Calls prog gg #[pt (f x.1),pt (f y.1)] _ _;refine hc _ (fun a ha=> ?_) x.1 x.2 y.1 y.2;have cA:f a≠b:=fun e=>(hf a ha).1 (e▸Nu.1);have aN:=(hf a ha).2;show((w.heap.modify b (onCells (putCells enc off dk)))++os)[f a]?=_;rw[Array.getElem?_append_left (by simpa using aN),Array.getElem?_modify,if_neg (Ne.symm cA)]
  have Ze:=Any.slices_SortFunc L6 enc (fun _=>rfl) (fun x y=>Lib.compareInt (ky x.1) (ky y.1)) (TR fun y:{a//a∈L}=>ky y.1) gg #[] b off cap L.attach.toArray w eg aaK hH Nu.2 (by rw[dc];omega);rw[dc]at Ze;refine Ze.mono ?_;rintro e w'⟨rfl,d',n,os,hpi,hso,rfl⟩;refine⟨rfl, ?_⟩;have hd:d'.size=L.length:=by rw[hpi.1,dc]
  have dy:d'.toList.Perm L.attach:=by have:=hpi.2.2;rw[<-hd,Array.extract_size]at this;rw[hd,<-dc,Array.extract_size]at this;simpa using this
  have hpv:(d'.toList.map (·.1)).Perm S:=by have:=dy.map (fun y:{a//a∈L}=>y.1);rw[List.attach_map_subtype_val]at this;exact this.trans hp
  have SR:(d'.toList.map (·.1)).Pairwise (fun a b=>ky a<=ky b):=by
   rw[List.pairwise_map,List.pairwise_iff_getElem];intro i j hi hj Rk;have:=hso i j (bh _) Rk (by simpa[hd]using hj);unfold ltOf at this;rw[Br]at this;have zu:i<d'.size:=by simpa using hi
   have VY:j<d'.size:=by simpa using hj
   rw[getElem!_pos d' i zu,getElem!_pos d' j VY]at this;simp at this;simpa using this
  have eS:=uI hpv SR hs;have hg:=rZ (enc:=enc) h d' hd S.length (by rw[hp.length_eq];exact af _) n;have fw:Goes (rowA ty 1 (.slice (some ⟨b,off,none⟩) S.length cap) S.length ((d'.toList.take S.length).map enc)) w G (sortWorld enc w b off n d' os):=hg.below ⟨rfl,rfl,rfl,by simp[sortWorld,grow],fun k hk=>by show(_++os)[k]?=_;rw[Array.getElem?_append_left hk]⟩
  have et:(d'.toList.take S.length).map enc=S.map fun i=>pt (f i):=by rw[List.take_of_length_le (by rw[Array.length_toList,hd,hp.length_eq];exact af _)];show d'.toList.map ((fun i=>pt (f i))∘Subtype.val)=_;rw[<-aB,eS]
  rw[et]at fw;rw[hp.length_eq];exact fw
end Pj
namespace Pj
open Go.RowKit aJ Mc bG
attribute [local go_sem] ae ag
theorem Tn(a:Int)(w:World):Calls prog 152 #[.int .i64 a] w fun e w'=>e= .returned (.bool false)∧w'=w:=by go_enter func152,ntmps152;go_wp2;go_ret;exact⟨by simp,rfl⟩
theorem Il(a b:Int)(w:World):Calls prog 116 #[.int .i64 a, .int .i64 b] w fun e w'=>e= .returned (.int .i64 (Lib.compareInt a b))∧w'=w:=by
 have HN:=hide (fun a w=>Tn a w);unfold Lib.compareInt;by_cases h1:a<b
 ·have SD:decide (a<b)=true:=by simpa using h1
  rw[if_pos h1];go_enter func116,ntmps116;go_wp2_with (first|(go_at_call 152;go_must(refine(HN.out _ _).mono ?_;rintro e w1⟨rfl,rfl⟩)));go_ret;exact⟨rfl,rfl⟩
 ·rw[if_neg h1];have SD:decide (a<b)=false:=by simpa using h1
  by_cases h2:a>b
  ·rw[if_pos h2];have h2':decide (a>b)=true:=by simpa using h2
   go_enter func116,ntmps116;go_wp2_with (first|(go_at_call 152;go_must(refine(HN.out _ _).mono ?_;rintro e w1⟨rfl,rfl⟩)));go_ret;exact⟨rfl,rfl⟩
  ·rw[if_neg h2];have h2':decide (a>b)=false:=by simpa using h2
   go_enter func116,ntmps116;go_wp2_with (first|(go_at_call 152;go_must(refine(HN.out _ _).mono ?_;rintro e w1⟨rfl,rfl⟩)));go_ret;exact⟨rfl,rfl⟩
theorem JF(p q:Nat)(a b:Int)(w:World)(hp:w.cell? ⟨p,3,none⟩=some (.int .i64 a))(hq:w.cell? ⟨q,3,none⟩=some (.int .i64 b)):Calls prog 115 #[pt p,pt q] w fun e w'=>e= .returned (.int .i64 (Lib.compareInt a b))∧ ∃n,w'=w.drewN n:=by
 have HC:Hid (∀w,Calls prog 116 #[.int .i64 a, .int .i64 b] w fun e w'=>e= .returned (.int .i64 (Lib.compareInt a b))∧w'=w):=fun w=>Il a b w;unfold pt;generalize Lib.compareInt a b=r at*;go_enter func115,ntmps115;go_wp2_with fail;go_region_held3 (fun w'=>w'.cell? ⟨p,3,none⟩=some (.int .i64 a)∧w'.cell? ⟨q,3,none⟩=some (.int .i64 b)) (go_keep)
  (first|(go_at_call 116;go_must(refine(HC.out _).mono ?_;rintro e w1⟨rfl,rfl⟩)))
 all_goals go_wp2;go_ret;exact⟨rfl,_,rfl⟩
theorem MK(p q:Nat)(a b:Int)(w:World)(hp:w.cell? ⟨p,0,none⟩=some (.int .i64 a))(hq:w.cell? ⟨q,0,none⟩=some (.int .i64 b)):Calls prog 123 #[pt p,pt q] w fun e w'=>e= .returned (.int .i64 (Lib.compareInt a b))∧ ∃n,w'=w.drewN n:=by
 have HC:Hid (∀w,Calls prog 116 #[.int .i64 a, .int .i64 b] w fun e w'=>e= .returned (.int .i64 (Lib.compareInt a b))∧w'=w):=fun w=>Il a b w;unfold pt;generalize Lib.compareInt a b=r at*;go_enter func123,ntmps123;go_wp2_with fail;go_region_held3 (fun w'=>w'.cell? ⟨p,0,none⟩=some (.int .i64 a)∧w'.cell? ⟨q,0,none⟩=some (.int .i64 b)) (go_keep)
  (first|(go_at_call 116;go_must(refine(HC.out _).mono ?_;rintro e w1⟨rfl,rfl⟩)))
 all_goals go_wp2;go_ret;exact⟨rfl,_,rfl⟩
theorem uL{base x tb:Nat}{g:Gh}{cn:List (Int×Nat×Bs)}{s:St}{w w1:World}{F:Ft}(h:(stA base x tb g cn s).holds w F)(hi:Inv s)(hz:s.sz<=16777000)(hB:Below w.heap.size w w1)(p:At->Bool)(gf:FuncId)(lb:Array Value)(eg:Enters prog gf)(hp:RO s.ah (fun a=>g.ap (key a)) p gf lb w1):Calls prog 68 #[pt x, .func (.func gf) #[] lb] w1 fun e w'=> ∃v',e= .returned v'∧Below w.heap.size w w'∧Goes (aa (stA base x tb g cn s) (rowA 127 1 v' (s.ah.filter p).length ((s.ah.filter p).map fun a=>pt (g.ap (key a))))) w F w':=by
 have h0:=h;obtain⟨j,r1,r2,r3,hF,hh⟩:=h;obtain⟨G,H,hj,GI,_,_⟩:=hh;have wf:=dJ r1 hi hz;obtain⟨v,hv⟩:=id hj;have uA:x<w.heap.size:=(wJ hv).2.2;have c11:w1.cell? ⟨x,11,none⟩=some v.lv:=by rw[bN hB uA];exact(wJ hv).1 11
 obtain⟨⟨Gl,vu⟩,mN⟩:=Ob hv;obtain⟨ao,cap,JO⟩:=aR (Goes.refl vu);rw[JO]at c11 vu;have yZ:=wf.b4;have hLl:(j.hp.filter p).length<=j.hp.length:=List.length_filter_le ..;have Ca:Hid (∀v' w2,Goes (rowA 127 1 v' (j.hp.filter p).length ((j.hp.filter p).map fun a=>pt (g.ap (key a)))) w1 (fun _=>False) w2->Calls prog 114 #[v', .func (.func 115) #[] #[]] w2 fun e w'=>e= .returned (.tuple #[])∧Hid (Below w.heap.size w w'∧Goes (aa (stA base x tb g cn s) (rowA 127 1 v' (s.ah.filter p).length ((s.ah.filter p).map fun a=>pt (g.ap (key a))))) w F w')):=fun v' w2 hg=>by
  have aaG:=gU hg;have Ka:Below w.heap.size w w2:=fY hB (aaG.mono hB.size);obtain⟨F2,gV,o2,n2⟩:=hg;have hcell: ∀a∈j.hp.filter p,∃k,w.heap[g.ap (key a)]?=some (.cells (mr g a k) 126 (0,0)):=fun a ha=>by obtain⟨i,BS,rfl⟩:=List.mem_iff_getElem.1 (aL.1 ha).1;exact⟨i,mN i BS⟩
  have aN: ∀a∈j.hp.filter p,g.ap (key a)<w.heap.size:=fun a ha=>by obtain⟨k,hk⟩:=hcell a ha;exact(cC.1 hk).1
  have aa0:(s.ah.filter p).Pairwise fun a b=>g.sr (key a)<g.sr (key b):=by have:=r1.D8;rw[List.pairwise_map]at this;exact this.sublist List.filter_sublist
  refine(Ed sfA 127 v' (j.hp.filter p) (s.ah.filter p) (fun a=>g.ap (key a)) (fun a=>g.sr (key a)) 115 w2 F2 (enters_of func115 (by kernel_rfl) rfl) gV (r1.hp.filter p) aa0 (by omega) (fun a ha=> ?_) (fun w3 XB a ha b hb=> ?_)).mono ?_
  ·have:=aN a ha;refine⟨fun hk=> ?_,bD this Ka.size⟩;rcases n2 _ hk with e|e
   ·exact e
   ·have:=hB.size;omega
  ·have Zc: ∀c∈j.hp.filter p,w3.cell? ⟨g.ap (key c),3,none⟩=some (.int .i64 (g.sr (key c))):=fun c hc=>by
    obtain⟨k,hk⟩:=hcell c hc;have e1:w3.heap[g.ap (key c)]?=some (.cells (mr g c k) 126 (0,0)):=by rw[XB c hc,Ka.block _ (aN c hc)];exact hk
    simp only[World.cell?,e1];rfl
   exact JF _ _ _ _ w3 (Zc a ha) (Zc b hb)
  ·rintro e w'⟨rfl,iD⟩;have uu:=aC o2 n2 iD;have aaH:=gU uu;exact⟨rfl,fY hB (aaH.mono hB.size),rF h0 hB uu⟩
 have EM:Hid (Calls prog 78 #[.slice ao j.hp.length cap, .func (.func gf) #[] lb] w1 fun e w'=> ∃fX bP,e= .returned (.slice fX (j.hp.filter p).length bP)∧Hid (Goes (rowA 127 1 (.slice fX (j.hp.filter p).length bP) (j.hp.filter p).length ((j.hp.filter p).map fun a=>pt (g.ap (key a)))) w1 (fun _=>False) w')):=by refine(vO _ j.hp (fun a=>g.ap (key a)) p gf lb eg w1 Gl (Mr.aI vu hB) (fun wr hr y hy=>hp wr hr y (r1.hp.subset hy)) (by omega)).mono ?_;rintro e w'⟨v',rfl,hg⟩;obtain⟨fX,bP,rfl⟩:=aR hg;exact⟨fX,bP,rfl,hg⟩
 clear h0 hj GI hv mN vu wf JO r1 r2 r3 hp;unfold pt;generalize A9:(j.hp.filter p).length=n1 at*;generalize j.hp.length=nl at*;go_enter func68,ntmps68;go_wp2_with (first
  |(go_at_call 78;go_must(refine EM.out.mono ?_;rintro e w2⟨fX,bP,rfl,HG⟩;have HS:=hide (Ca.out _ _ HG.out)))
  |(go_at_call 114;go_must(refine HS.out.mono ?_;rintro e w3⟨rfl,HE⟩)))
 go_ret;exact⟨_,rfl,HE.out.1,HE.out.2⟩
