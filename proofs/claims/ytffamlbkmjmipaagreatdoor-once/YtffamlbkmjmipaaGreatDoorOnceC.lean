import Derived.Test.YtffamlbkmjmipaaGreatDoorC17
import Derived.Test.YtffamlbkmjmipaaGreatDoorC18
import Derived.Test.YtffamlbkmjmipaaGreatDoorC44
import Derived.Test.YtffamlbkmjmipaaGreatDoorO5
import Derived.Deep.Strs
set_option maxHeartbeats 8000000
set_option maxRecDepth 100000
namespace Go.Proofs.YtffamlbkmjmipaaGreatDoor
open _root_.Go.Proofs.Tryz
namespace ud
open Go.RowKit Go.Deep
theorem MS:prog.cellsOf 9=1:=by kernel_rfl
theorem MQ:prog.bytesOf 9=16:=by kernel_rfl
section
variable{H:Type}{enc:TypeId×Value->H}{w:World}{base:Nat}{spare:Nat->Bool}{held:Bool}
theorem GX{fuel:Nat}{cs:List Value}{x:DataW H×List MemPlace}(h:DataW.trod enc prog w base spare held fuel 37 cs=some x): ∃(ao:Option Addr) (b off len cap:Nat) (ts:Nat->ByteArray),cs= [.slice ao len cap]∧(0<len->ao=some ⟨b,off,none⟩)∧(∀i,i<len->w.cell? ⟨b,off+i,none⟩=some (.string (ts i)))∧(0<len->b<w.heap.size)∧(len=0∨ ∃sp,x.1= .slice ((List.range len).map fun i=> .lit (.string (ts i).data.toList)) sp):=by
 rcases open_strs underlying37 underlying9 MS h with⟨rfl,rfl⟩|⟨a,len,cap,m,Sx,rfl,hb,hl,hm,EC,rfl,hx⟩
 ·exact⟨none,0,0,0,0,fun _=> .empty,rfl,fun h=>absurd h (by omega),fun i hi=>absurd hi (by omega),fun h=>absurd h (by omega),Or.inl rfl⟩
 have IU:len<=m:=by rw[EC];split<;>omega
 obtain⟨b,off,spot⟩:=a;by_cases h0:0<len
 ·have VL:=(hx 0 (by omega)).1;have ZK:spot=none:=by simpa[Addr.add]using World.cell?_spot VL
  subst ZK;refine⟨some ⟨b,off,none⟩,b,off,len,cap,Sx,rfl,fun _=>rfl,fun i hi=> ?_,fun _=>World.block_lt_of_cell? _ _ VL,Or.inr ⟨_,rfl⟩⟩;have:=(hx i (by omega)).1;rw[Go.WideShapes.add_plain]at this;exact this
 ·obtain rfl:len=0:=by omega
  exact⟨_,b,off,0,cap,Sx,rfl,fun h=>absurd h (by omega),fun i hi=>absurd hi (by omega),fun h=>absurd h (by omega),Or.inl rfl⟩
end
theorem nu{H:Type}{P:Program}{e:TypeId}: ∀{l:List (DataW H)} {d:DataW H},d∈l-> ∀n∈d.weights P e,n∈DataW.weightsAll P e l
 |x::l,d,h,n,hn=>by
  rw[DataW.weightsAll,List.mem_append];rcases List.mem_cons.1 h with rfl|h
  ·exact Or.inl hn
  ·exact Or.inr (nu h n hn)
theorem En{H:Type}{d:DataW H}{len:Nat}{ts:Nat->ByteArray}{s:ByteArray}(dc:(DataW.weightsEach prog [37,9] [d, .lit (.string s.data.toList)]).all (· <=reachBytes)=true)(hd:len=0∨ ∃sp,d= .slice ((List.range len).map fun i=> .lit (.string (ts i).data.toList)) sp):len<=1000000000000000∧(∀i,i<len->(ts i).size<=1000000000000000)∧s.size<=1000000000000000:=by
 have LU:reachBytes<=1000000000000000:=by decide
 have hs:=sized_string dc (j:=1) rfl rfl;have LV:s.data.toList.length=s.size:=by simp
 rcases hd with rfl|⟨sp,rfl⟩
 ·exact⟨bh _,fun i hi=>absurd hi (by omega),by omega⟩
 have h1:=sized_slice dc (j:=0) rfl rfl underlying37;rw[MQ,aF,List.length_range]at h1;refine⟨by omega,fun i hi=> ?_,by omega⟩;have hm:(ts i).data.toList.length∈DataW.weightsEach prog [37,9] [DataW.slice ((List.range len).map fun i=> .lit (.string (ts i).data.toList)) sp, .lit (.string s.data.toList) (H:=H)]:=by refine DataW.weights_mem_each (j:=0) rfl rfl _ ?_;rw[DataW.weights,underlying37];refine aV _ (List.mem_append.2 (Or.inl (nu (az.2 ⟨i,List.mem_range.2 hi,rfl⟩) _ ?_)));simp[DataW.weights]
 have h2:=List.all_eq_true.1 dc _ hm;have h3:(ts i).data.toList.length=(ts i).size:=by simp
 simp only[decide_eq_true_eq]at h2;omega
theorem Jd:laidOutB prog=true:=by kernel_rfl
theorem K6:prog.readableRec 37=true:=by kernel_rfl
theorem rowTexts:37<prog.types.size:=of_decide_eq_true (by kernel_rfl)
theorem Qz:prog.readableRec 9=true:=by kernel_rfl
theorem TI:9<prog.types.size:=of_decide_eq_true (by kernel_rfl)
end ud
namespace ud
open Go.RowKit Go.Deep Go.ChangeShapes Go.WideShapes Go.ChangeAt
theorem once_contract(H:Type)(enc:TypeId×Value->H)(W:World)(base:Nat)(args:Array Value)(ds gs:List (DataW H))(before:List MemPlace)(hval: ∀(j:Nat) t v,f15.params[j]?=some t->args[j]?=some v->Value.okWide prog W .any base t v)(hW:DataW.Whole enc prog f15.params.toList Rows.onceSpec.vars false W args.toList ds gs before)(dc:(DataW.weightsEach prog (f15.params.toList++(OpenSpec.ofChange Rows.onceSpec).bare.plain.varTypes prog) (ds++gs)).all (· <=reachBytes)=true)(hL:laidMetH prog Rows.onceRow.laid W)(IZ:W.ShapedOpen prog):Calls prog 15 args W fun e W'=> ∃v,e= .returned v∧Rows.onceSpec.post enc prog f15 false true false false W args v W':=by
 have hW':=hW;obtain⟨p,q,hA0,hV,rfl,hfz,iL⟩:=hW;have hA:DataW.TrodAll enc prog W 0 (fun _=>true) true f15.params.toList args.toList ds p:=hA0;rw[params15]at hA hval;obtain⟨v0,vs0,d0,ds0,p0,q0,aaD,rfl,rfl,h0,r0⟩:=trodAll_cons hA;obtain⟨v1,vs1,d1,ds1,p1,q1,aaE,rfl,rfl,h1,r1⟩:=trodAll_cons r0;obtain⟨rfl,rfl,rfl⟩:=trodAll_nil r1;obtain rfl:args= #[v0,v1]:=by cases args;simp_all
 obtain⟨rfl,rfl⟩:=trodVars_none hV;obtain⟨a0,aa9,aam,rfl⟩:=okWide_slice underlying37 (hval 0 37 v0 rfl rfl);obtain⟨y1,rfl⟩:=okWide_string underlying9 (hval 1 9 v1 rfl rfl);have Ey:=h0;have SD:=h1;obtain⟨f0,hf0⟩:=h0;obtain⟨f1,Zk⟩:=h1;obtain⟨ao,b,off,len,cap,ts,hcs,bQ,hT,hb,hd⟩:=GX hf0;simp only[Value.cells,List.cons.injEq,Value.slice.injEq,and_true]at hcs;obtain⟨rfl,rfl,rfl⟩:=hcs;obtain⟨x1,uq,he1,i7⟩:=DataW.trod_string underlying9 Zk;simp only[Value.cells,List.cons.injEq,Value.string.injEq,and_true]at uq;obtain⟨rfl,rfl⟩:=Prod.mk.inj he1;subst uq;have hz:(DataW.weightsEach prog [37,9] [d0, .lit (.string y1.data.toList)]).all (· <=reachBytes)=true:=dc;obtain⟨hlen,hstr,_⟩:=En (ts:=ts) hz hd;have aN: ∀x∈p0,x.block<W.heap.size:=fun x hx=>hW'.lt x (by simpa using hx);clear hA0;simp only[List.append_nil]at hW';refine(Kp.Qm a0 b off aa9 aam ts y1 W (Pj.prj (bG.aba hL IZ)) bQ hT hb (by omega) (fun i hi=>ar (hstr i hi) (by decide))).mono fun e W' ⟨he,hg⟩=> ?_;subst he;refine⟨_,rfl, [d0, .lit (.string y1.data.toList)], [],p0, [],p0, [],hW', ?_, ?_,rfl,hg.frame _,fun h=>by cases h⟩
 ·exact trodAll_cons_mk (shut_bool underlying4 _) trodAll_mk0
 ·have:=trodAll_cons_mk (Below.trod Jd K6 rowTexts Ey hg aN) (trodAll_cons_mk (Below.trod Jd Qz TI SD hg (fun x hx=>nomatch hx)) trodAll_mk0);simp only[List.append_nil]at this;exact this
