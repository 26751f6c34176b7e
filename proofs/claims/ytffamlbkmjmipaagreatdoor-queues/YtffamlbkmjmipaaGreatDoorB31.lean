import Derived.Test.YtffamlbkmjmipaaGreatDoorB20
import Derived.Test.YtffamlbkmjmipaaGreatDoorRows
import Derived.Carry
import Derived.Deep.DeepHandedRow
import Derived.Lib.LaidTab
set_option maxHeartbeats 8000000
set_option maxRecDepth 100000
namespace Go.Proofs.YtffamlbkmjmipaaGreatDoor
open _root_.Go.Proofs.Tryz
namespace fA
open Go.RowKit Go.Deep Go.ChangeShapes Go.WideShapes Go.ChangeAt
theorem own:ownKnob prog.godebug=none:=by kernel_rfl
theorem laidOut:laidOutB prog=true:=by kernel_rfl
theorem lS:prog.readableRec 22=true:=by kernel_rfl
theorem nR:22<prog.types.size:=of_decide_eq_true (by kernel_rfl)
theorem weightsAll_mem{H:Type}{P:Program}{e:TypeId}: ∀{l:List (DataW H)} {d:DataW H},d∈l-> ∀n∈d.weights P e,n∈DataW.weightsAll P e l
 |x::l,d,h,n,hn=>by
  rw[DataW.weightsAll,List.mem_append];rcases List.mem_cons.1 h with rfl|h
  ·exact Or.inl hn
  ·exact Or.inr (weightsAll_mem h n hn)
theorem MO{H:Type}(o:fU):o.s.data.toList.length∈(o.dat (H:=H)).weights prog 73:=by unfold fU.dat DataW.weights;rw[underlying73];simp[DataW.weightsEach,DataW.weights]
theorem reach{H:Type}{d:DataW H}{len:Nat}{ops:Nat->fU}(cg:(DataW.weightsEach prog [22] [d]).all (· <=reachBytes)=true)(hd:len=0∨ ∃sp,d= .slice ((List.range len).map fun i=>(ops i).dat) sp):len<=1000000000000000∧ ∀i,i<len->(ops i).s.size<=1000000000000000:=by
 have zI:reachBytes<=1000000000000000:=by decide
 rcases hd with rfl|⟨sp,rfl⟩
 ·exact⟨aJ _,fun i hi=>absurd hi (by omega)⟩
 have h1:=sized_slice cg (j:=0) rfl rfl underlying22;rw[S1,bf,List.length_range]at h1;refine⟨by omega,fun i hi=> ?_⟩;have hm:(ops i).s.data.toList.length∈DataW.weightsEach prog [22] [DataW.slice ((List.range len).map fun i=>(ops i).dat (H:=H)) sp]:=by refine DataW.weights_mem_each (j:=0) rfl rfl _ ?_;rw[DataW.weights,underlying22];refine bt _ (List.mem_append.2 (Or.inl (weightsAll_mem (aA.2 ⟨i,List.mem_range.2 hi,rfl⟩) _ (MO _))))
 have h2:=List.all_eq_true.1 cg _ hm;have h3:(ops i).s.data.toList.length=(ops i).s.size:=by simp
 simp only[decide_eq_true_eq]at h2;omega
def Dr:DataW Unit->List Value
 | .lit (.int k n)=> [.int k n]
 |_=> []
def OO:DataW Unit->List Value
 | .agg l=>l.flatMap Dr
 |d=>Dr d
def tableCells:DataW Unit->Array Value
 | .agg l=>(l.flatMap OO).toArray
 |_=> #[]
def lay(o:Obj)(d:DataW Unit):Obj:=match o with
 | .cells _ t frozen=> .cells (tableCells d) t frozen
 |o=>o
def abl(o:Obj)(v:Value):Obj:=match o with
 | .cells _ t frozen=> .cells #[v] t frozen
 |o=>o
def sq(os:Os)(W:World):Prop:=
 W={World.holding prog os ⟨#[], #[], []⟩with heap:=(((((((((World.holding prog os ⟨#[], #[], []⟩).heap.modify 1 (fun o=>lay o Rows.laid_unicode_utf8_first)).modify 2 (fun o=>lay o Rows.laid_unicode_utf8_acceptRanges)).modify 3 (fun o=>lay o Rows.laid_internal_strconv_uint64pow10)).modify 6 (fun o=>lay o Rows.laid_math_bits_deBruijn32tab)).modify 7 (fun o=>lay o Rows.laid_math_bits_deBruijn64tab)).modify 4 (fun o=>abl o (.iface 312 (.pointer (some ⟨13,0,none⟩))))).modify 5 (fun o=>abl o (.iface 312 (.pointer (some ⟨14,0,none⟩))))).push (.cells #[.string ⟨#[105,110,118,97,108,105,100,32,115,121,110,116,97,120]⟩] 314)).push (.cells #[.string ⟨#[118,97,108,117,101,32,111,117,116,32,111,102,32,114,97,110,103,101]⟩] 314)}
theorem laid_met(os:Os)(W:World)(h:sq os W):laidMet prog Rows.sealsRow.laid (W.forCall (fun _ _=>0) ⟨#[], #[.slice none 0 0], []⟩).memory:=by cases h;exact laidMet_of_run' 8 (by kernel_rfl) (by kernel_rfl)
theorem reads(os:Os)(W:World)(h:sq os W){H:Type}(enc:TypeId×Value->H): ∃places,DataW.whole enc prog (W.forCall (fun _ _=>0) ⟨#[], #[.slice none 0 0], []⟩).memory f3.params.toList Rows.sealsSpec.vars false #[Value.slice none 0 0].toList 8=some ([.nil], [],places):=by cases h;exact⟨[],by kernel_rfl⟩
