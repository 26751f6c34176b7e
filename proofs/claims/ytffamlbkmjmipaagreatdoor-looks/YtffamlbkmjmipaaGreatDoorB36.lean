import Derived.Test.YtffamlbkmjmipaaGreatDoorB35
import Derived.Shelf.SlSortCmp.NoneTotal
set_option maxHeartbeats 8000000
set_option maxRecDepth 100000
namespace Go.Proofs.YtffamlbkmjmipaaGreatDoor
open _root_.Go.Proofs.Tryz
namespace Pj
open Go.RowKit aM Mc bJ
attribute [local go_sem] ag ar
section
variable{base x tb:Nat}{g:Gh}{cn:List (Int×Nat×Bs)}{s:St}{j:Js}{B:aM}{w w':World}{F:Ft}
theorem Ki(l:List Kn)(c:Int):l.filter (fun k=>k.n !=c)=l.filter fun y=>decide (y.n≠c):=List.filter_congr fun y _=>by by_cases e:y.n=c<;>simp[e]
theorem Tb(l:List Kn)(c:Int):(l.map fun k=>(k.n,k.p)).filter (fun x=>decide (x.1≠c))=(l.filter fun y=>decide (y.n≠c)).map fun k=>(k.n,k.p):=by rw[List.filter_map];rfl
theorem km{α:Type}{A:α->aM}(p:α->Bool): ∀(l:List α) (B:aM) (w:World) (F:Ft),(aa (all A l) B).holds w F->Goes (aa (all A (l.filter p)) B) w F w
 | [],B,w,F,h=>Goes.refl h
 |y::l,B,w,F,h=>by
  by_cases e:p y=true
  ·rw[List.filter_cons_of_pos e];have h2:=aB h (show _=aa (all A l) (aa (A y) B)by show aa (aa (A y) (all A l)) B=_;ac_rfl);refine(km p l (aa (A y) B) w F h2).eq ?_;show _=aa (aa (A y) (all A (l.filter p))) B
   ac_rfl
  ·rw[List.filter_cons_of_neg e];have h2:=aB h (show _=aa (aa (all A l) B) (A y)by show aa (aa (A y) (all A l)) B=_;ac_rfl);have h3:=(Goes.refl h2).drop;exact h3.trans fun F' h'=>km p l B w F' h'
theorem Eu(h:(aa (jA x g j) B).holds w F)(c:Int)(hc:I6 c)(nq:Nat): ∃cm w2,w.cell? ⟨x,6,none⟩=some (.map (some cm))∧(Builtin.delete_ #[81,3] 0 #[.map (some cm), .int .i64 c]).run prog (w.drewN nq)= .ok (.tuple #[]) w2∧Goes (aa (jA x g {j with bT:=j.bT.filter (fun k=>k.n !=c)}) B) w F w2:=by
 unfold jA at h;rw[cx]at h;obtain⟨v,h⟩:=h;change (aa (bk x g j v) B).holds w F at h;obtain⟨Gj,rC,_⟩:=aM.left h;have D:=yN rC;have h2:=aB h (show _=aa (kN v.cm j.bT) (aa (all jo j.bT) (aa (dB x j v) (aa (jS g v.rm j.reqs) (aa (jk g v.tm j.aW) (aa (all (dO g j.c.re) j.reqs) (aa (all (gA g) j.aW) (aa (fK g v.rv j.ring) (aa (jw v.pv j.pull) (aa (eY g v.lv j.hp) (aa (hpA g j.hp) B))))))))))by unfold bk;ac_rfl);obtain⟨G,H,ha1,hb1,d1,e1⟩:=cB h2 nq;obtain⟨w2,yB,ld⟩:=za ha1 underlying81 0 c hc;refine⟨v.cm,w2,D.1 6,yB, ?_⟩;have g2:=eT (q:=nq) (aV hb1 ld d1 e1);have g3:=g2.eq (show _=aa (all jo j.bT) (aa (kN v.cm (j.bT.filter fun y=>decide (y.n≠c))) (aa (dB x j v) (aa (jS g v.rm j.reqs) (aa (jk g v.tm j.aW) (aa (all (dO g j.c.re) j.reqs) (aa (all (gA g) j.aW) (aa (fK g v.rv j.ring) (aa (jw v.pv j.pull) (aa (eY g v.lv j.hp) (aa (hpA g j.hp) B))))))))))by rw[Tb];unfold kN;ac_rfl);have g4:=g3.trans fun F' h'=>km (fun y=>decide (y.n≠c)) j.bT _ w2 F' h';refine g4.mono fun F' h'=> ?_;unfold jA;rw[cx];refine⟨v,aB h' ?_⟩;unfold bk;dsimp only;rw[Ki];show _=aa (aa (dB x j v) _) _
 ac_rfl
theorem Yn(h:(aa (jA x g j) B).holds w F)(hl:j.bT.length<=16777210)(c:Int)(hc:I6 c)(hn:c∉j.bT.map (·.n))(nq:Nat): ∃cm w2,w.cell? ⟨x,6,none⟩=some (.map (some cm))∧(w.alloc (.cells #[.slice none 0 0, .bool false] 107)).cell? ⟨x,6,none⟩=some (.map (some cm))∧(Instr.lookup 81 (.map (some cm)) (.int .i64 c) false).run prog w= .ok (.pointer none) w∧(Instr.mapUpdate 81 (.map (some cm)) (.int .i64 c) (pt w.heap.size)).run prog ((w.alloc (.cells #[.slice none 0 0, .bool false] 107)).drewN nq)= .ok () w2∧Goes (aa (jA x g {j with bT:=j.bT++ [⟨c,w.heap.size, [],false⟩]}) B) w F w2:=by
 unfold jA at h;rw[cx]at h;obtain⟨v,h⟩:=h;change (aa (bk x g j v) B).holds w F at h;obtain⟨Gj,rC,_⟩:=aM.left h;have D:=yN rC;obtain⟨Gc,zH⟩:=Ym rC;have hk:c∉(j.bT.map fun k=>(k.n,k.p)).map (·.1):=by rw[aG];exact hn
 have od:=nN zH (t:=81) (e:=99) underlying81 (JQ w) c hc;rw[lO hk]at od;have h1:=((Goes.refl h).alloc (.cells #[.slice none 0 0, .bool false] 107 (0,0))).drewN nq;obtain⟨F1,cd,o1,n1⟩:=h1;have h2:=aB cd (show _=aa (kN v.cm j.bT) (aa (EA w.heap.size false (.slice none 0 0)) (aa (dB x j v) (aa (jS g v.rm j.reqs) (aa (jk g v.tm j.aW) (aa (all jo j.bT) (aa (all (dO g j.c.re) j.reqs) (aa (all (gA g) j.aW) (aa (fK g v.rv j.ring) (aa (jw v.pv j.pull) (aa (eY g v.lv j.hp) (aa (hpA g j.hp) B)))))))))))by unfold bk EA;ac_rfl);obtain⟨G,H,ha1,hb1,d1,e1⟩:=h2;obtain⟨w2,Iw,ld⟩:=zb ha1 (t:=81) (e:=99) underlying81 (by rw[bf];unfold maxLen;omega) c hc w.heap.size hk;have c6:w.cell? ⟨x,6,none⟩=some (.map (some v.cm)):=D.1 6;refine⟨v.cm,w2,c6,by rw[<-c6];exact cL ((ah _ _).alloc (ae _) _) D.2.2,od,Iw, ?_⟩;have g2:=aF o1 n1 (aV hb1 ld d1 e1);refine g2.mono fun F' h'=> ?_;have h3:=aB h' (show _=aa (EA w.heap.size false (.slice none 0 0)) (aa (mapA kS v.cm ((j.bT.map fun k=>(k.n,k.p))++ [(c,w.heap.size)])) (aa (dB x j v) (aa (jS g v.rm j.reqs) (aa (jk g v.tm j.aW) (aa (all jo j.bT) (aa (all (dO g j.c.re) j.reqs) (aa (all (gA g) j.aW) (aa (fK g v.rv j.ring) (aa (jw v.pv j.pull) (aa (eY g v.lv j.hp) (aa (hpA g j.hp) B)))))))))))by ac_rfl);have h4:(aa (jo ⟨c,w.heap.size, [],false⟩) (aa (mapA kS v.cm ((j.bT.map fun k=>(k.n,k.p))++ [(c,w.heap.size)])) (aa (dB x j v) (aa (jS g v.rm j.reqs) (aa (jk g v.tm j.aW) (aa (all jo j.bT) (aa (all (dO g j.c.re) j.reqs) (aa (all (gA g) j.aW) (aa (fK g v.rv j.ring) (aa (jw v.pv j.pull) (aa (eY g v.lv j.hp) (aa (hpA g j.hp) B)))))))))))).holds w2 F':=by obtain⟨G1,H1,a1,b1,dd,ee⟩:=h3;refine⟨G1,H1,⟨.slice none 0 0,G1,fun _=>False,a1,⟨World.ownsRow_nil _ _ _ _,fun k=>⟨False.elim,fun h=>by cases h⟩⟩,fun _ _ h=>h,fun k=>⟨.inl,fun h=>h.elim id False.elim⟩⟩,b1,dd,ee⟩
 unfold jA;rw[cx];refine⟨v,aB h4 ?_⟩;unfold bk kN;dsimp only;rw[aH,all_append];show _=aa (aa (dB x j v) _) _;have e5:all jo [(⟨c,w.heap.size, [],false⟩:Kn)]=jo ⟨c,w.heap.size, [],false⟩:=by show aa (jo _) emp=_;rw[mO]
 rw[e5];show _=aa (aa (dB x j v) (aa (mapA kS v.cm ((j.bT.map fun k=>(k.n,k.p))++ [(c,w.heap.size)])) _)) _
 ac_rfl
end
end Pj
namespace Pj
open Go.RowKit aM Mc Go.Sort
theorem wk{β:Type}{f:β->Int}: ∀{l2 l1:List β},l1.Perm l2->l1.Pairwise (fun a b=>f a<=f b)->l2.Pairwise (fun a b=>f a<f b)->l1=l2
 | [],l1,h,_,_=>h.eq_nil
 |b::l2, [],h,_,_=>absurd h.length_eq (by simp)
 |b::l2,a::l1,h,h1,h2=>by
  rw[List.pairwise_cons]at h1 h2;have oa:a=b:=by
   rcases List.mem_cons.1 (h.subset (dy ..))with e|e
   ·exact e
   ·have h3:=h2.1 a e;rcases List.mem_cons.1 (h.symm.subset (dy ..))with e'|e'
    ·exact e'.symm
    ·have:=h1.1 b e';omega
  subst oa;rw[wk (List.Perm.cons_inv h) h1.2 h2.2]
theorem Cl(x y:Int):decide (Lib.compareInt x y<0)=decide (x<y):=by
 unfold Lib.compareInt;by_cases h1:x<y
 ·simp[h1]
 ·by_cases h2:y<x<;>simp[h1,h2]
theorem Ve{β:Type}(ky:β->Int):SWO (ltOf fun a b=>Lib.compareInt (ky a) (ky b)) where
 irrefl x:=by unfold ltOf;rw[Cl];simp
 trans x y z h1 h2:=by unfold ltOf at*;rw[Cl]at*;simp at*;omega
 ntrans x y z h1 h2:=by unfold ltOf at*;rw[Cl]at*;simp at*;omega
theorem FU{ρ:Shelf.Ren}(L6:SlLaysF.n6 prog ρ){β:Type}(ty:TypeId)(v:Value)(L S:List β)(f:β->Nat)(ky:β->Int)(gg:FuncId)(w:World)(G:Ft)(eg:Enters prog gg)(h:(rowA ty 1 v L.length (L.map fun i=>pt (f i))).holds w G)(hp:L.Perm S)(hs:S.Pairwise fun a b=>ky a<ky b)(hl:L.length<=16777216)(hf: ∀a∈L,¬G (f a)∧f a<w.heap.size)(hc: ∀w1:World,(∀a∈L,w1.heap[f a]?=w.heap[f a]?)-> ∀a∈L,∀b∈L,Calls prog gg #[pt (f a),pt (f b)] w1 fun e w'=>e= .returned (.int .i64 (Lib.compareInt (ky a) (ky b)))∧ ∃q,w'=w1.drewN q):Calls prog (ρ.f 6) #[v, .func (.func gg) #[] #[]] w fun e w'=>e= .returned (.tuple #[])∧Goes (rowA ty 1 v S.length (S.map fun i=>pt (f i))) w G w':=by
 obtain⟨ao,cap,rfl,dF,bI⟩:=Mr.bO h;cases L with
 |nil=>have e:=hp.nil_eq;subst e;refine(AnyF.slices_SortFunc_none (P:=prog) (ρ:=ρ) {L6 with} ao cap (.func (.func gg) #[] #[]) w).mono ?_;rintro e w'⟨rfl,rfl⟩;exact⟨rfl,Goes.refl h⟩
 |cons a0 L0=>
  obtain⟨b,off,rfl⟩:=bI (by simp);generalize hL:a0::L0=L at*;have ha0:a0∈L:=by rw[<-hL];exact dy ..
  letI:Inhabited {a//a∈L}:=⟨⟨a0,ha0⟩⟩
  let enc:{a//a∈L}->Value:=fun y=>pt (f y.1)
  have eL:L.attach.map enc=L.map fun i=>pt (f i):=by show L.attach.map ((fun i=>pt (f i))∘Subtype.val)=_;rw[<-aG,List.attach_map_subtype_val]
  have hH0:=h;rw[<-eL]at hH0;have hH:Holds enc w b off L.attach.toArray:=row_holds hH0;have hGb:G b∧b<w.heap.size:=by
   rcases h.2 with⟨h0,_⟩|⟨g',rH,cM,cur,hv,hF,hg,_⟩
   ·cases h0
   ·cases hv;exact⟨(hF b).2 rfl,(cT.1 hg).1⟩
  have cg:L.attach.toArray.size=L.length:=by simp
  have acq:CmpLays1 prog gg #[] enc (fun x y=>Lib.compareInt (ky x.1) (ky y.1)) b off L.attach.toArray.size w:=by refine CmpReads.lays (fun m os dk _ x y=> ?_);show Calls prog gg #[pt (f x.1),pt (f y.1)] _ _;refine hc _ (fun a ha=> ?_) x.1 x.2 y.1 y.2;have cC:f a≠b:=fun e=>(hf a ha).1 (e▸hGb.1);have ay:=(hf a ha).2;show((w.heap.modify b (onCells (putCells enc off dk)))++os)[f a]?=_;rw[Array.getElem?_append_left (by simpa using ay),Array.getElem?_modify,if_neg (Ne.symm cC)]
  have D3:=Any.slices_SortFunc L6 enc (fun _=>rfl) (fun x y=>Lib.compareInt (ky x.1) (ky y.1)) (Ve fun y:{a//a∈L}=>ky y.1) gg #[] b off cap L.attach.toArray w eg acq hH hGb.2 (by rw[cg];omega);rw[cg]at D3;refine D3.mono ?_;rintro e w'⟨rfl,d',n,os,hpi,hso,rfl⟩;refine⟨rfl, ?_⟩;have hd:d'.size=L.length:=by rw[hpi.1,cg]
  have fw:d'.toList.Perm L.attach:=by have:=hpi.2.2;rw[<-hd,Array.extract_size]at this;rw[hd,<-cg,Array.extract_size]at this;simpa using this
  have hpv:(d'.toList.map (·.1)).Perm S:=by have:=fw.map (fun y:{a//a∈L}=>y.1);rw[List.attach_map_subtype_val]at this;exact this.trans hp
  have Ud:(d'.toList.map (·.1)).Pairwise (fun a b=>ky a<=ky b):=by
   rw[List.pairwise_map,List.pairwise_iff_getElem];intro i j hi hj VX;have:=hso i j (aJ _) VX (by simpa[hd]using hj);unfold ltOf at this;rw[Cl]at this;have Ab:i<d'.size:=by simpa using hi
   have XO:j<d'.size:=by simpa using hj
   rw[getElem!_pos d' i Ab,getElem!_pos d' j XO]at this;simp at this;simpa using this
  have eS:=wk hpv Ud hs;have hg:=ui (enc:=enc) h d' hd S.length (by rw[hp.length_eq];exact ae _) n;have ld:Goes (rowA ty 1 (.slice (some ⟨b,off,none⟩) S.length cap) S.length ((d'.toList.take S.length).map enc)) w G (sortWorld enc w b off n d' os):=hg.below ⟨rfl,rfl,rfl,by simp[sortWorld,grow],fun k hk=>by show(_++os)[k]?=_;rw[Array.getElem?_append_left hk]⟩
  have et:(d'.toList.take S.length).map enc=S.map fun i=>pt (f i):=by rw[List.take_of_length_le (by rw[Array.length_toList,hd,hp.length_eq];exact ae _)];show d'.toList.map ((fun i=>pt (f i))∘Subtype.val)=_;rw[<-aG,eS]
  rw[et]at ld;rw[hp.length_eq];exact ld
