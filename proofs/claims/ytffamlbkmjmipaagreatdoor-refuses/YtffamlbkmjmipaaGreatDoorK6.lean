import Derived.Test.YtffamlbkmjmipaaGreatDoorK5
set_option maxHeartbeats 8000000
set_option maxRecDepth 100000
namespace Go.Proofs.YtffamlbkmjmipaaGreatDoor
open _root_.Go.Proofs.Tryz
namespace Kp
open Go.RowKit aD Mc Mr Lw bA
def eh:List (Bs×Bool×Bs):= [
 ([115,117,98,32,48,32,97,32,120],false, [97,99,99,32,48]),
 ([115,117,98,32,57,57,57,57,57,57,32,97,98,99,100,101,102,32,49,50,51,52,53,54,55,56,57,48,49,50],false, [97,99,99,32,57,57,57,57,57,57]),
 ([115,117,98,32,49,32,206,177,207,137,32,126,33,194,161,239,191,191],false, [97,99,99,32,49]),
 ([115,117,98,32,49,32,97,98,99,206,177,206,178,206,179,32,195,169,195,169,195,169,195,169,195,169,195,169,195,169,195,169,195,169,195,169,195,169,195,169],false, [97,99,99,32,49]),
 ([99,97,110,32,49],false, [110,111,110,101,32,49]),
 ([112,117,108,108],false, []),
 ([98,101,97,116],false, []),
 ([100,114,97,105,110],false, [98,121,101]),
 ([100,111,110,101,32,49,32,49,32,120],false, []),
 ([102,97,105,108,32,49,32,49],false, []),
 ([100,111,110,101,32,48,32,48,32,120],false, []),
 ([115,117,98,32,48,49,32,97,32,120],false, [98,97,100]),
 ([115,117,98,32,49,48,48,48,48,48,48,32,97,32,120],false, [98,97,100]),
 ([115,117,98,32,45,49,32,97,32,120],false, [98,97,100]),
 ([115,117,98,32,32,97,32,120],false, [98,97,100]),
 ([115,117,98,32,49,32,97,98,99,100,101,102,103,32,120],false, [98,97,100]),
 ([115,117,98,32,49,32,206,177,206,178,206,179,206,180,206,181,206,182,206,183,32,120],false, [98,97,100]),
 ([115,117,98,32,49,32,65,32,120],false, [98,97,100]),
 ([115,117,98,32,49,32,97,49,32,120],false, [98,97,100]),
 ([115,117,98,32,49,32,206,172,32,120],false, [98,97,100]),
 ([115,117,98,32,49,32,97,32,49,50,51,52,53,54,55,56,57,48,49,50,51],false, [98,97,100]),
 ([115,117,98,32,49,32,97,32,195,169,195,169,195,169,195,169,195,169,195,169,195,169,195,169,195,169,195,169,195,169,195,169,195,169,195,169],false, [98,97,100]),
 ([115,117,98,32,49,32,97],false, [98,97,100]),
 ([115,117,98,32,49,32,97,32,120,32,121],false, [98,97,100]),
 ([115,117,98,32,49,32,97,32],false, [98,97,100]),
 ([115,117,98,32,49,32,32,120],false, [98,97,100]),
 ([115,117,98,32,49,32,97,32,127],false, [98,97,100]),
 ([115,117,98,32,49,32,97,32,194,160],false, [98,97,100]),
 ([115,117,98,32,49,32,97,32,9],false, [98,97,100]),
 ([115,117,98,32,49,32,97,32,128],false, [98,97,100]),
 ([115,117,98,32,49,32,97,32,195],false, [98,97,100]),
 ([115,117,98,32,49,32,97,32,192,161],false, [98,97,100]),
 ([115,117,98,32,49,32,97,32,237,160,128],false, [98,97,100]),
 ([115,117,98,32,49,32,97,32,240,159,152,128],false, [98,97,100]),
 ([115,117,98,32,49,32,97,32,224,128,161],false, [98,97,100]),
 ([115,117,98,32,49,32,97,32,120,120,120,120,120,120,120,120,120,120,120,120,120,120,120,120,120,120,120,120,120,120,120,120,120,120,120,120,120,120,120,120,120,120,120,120,120,120,120,120,120,120,120,120,120,120,120,120,120,120,120,120,120,120,120,120,120,120,120,120,120,120,120,120],false, [98,97,100]),
 ([],false, [98,97,100]),
 ([32],false, [98,97,100]),
 ([112,117,108,108,32],false, [98,97,100]),
 ([32,112,117,108,108],false, [98,97,100]),
 ([112,117,108,108,32,49],false, [98,97,100]),
 ([80,117,108,108],false, [98,97,100]),
 ([112,117,108,108,115],false, [98,97,100]),
 ([99,97,110],false, [98,97,100]),
 ([99,97,110,32,120],false, [98,97,100]),
 ([99,97,110,32,49,32,50],false, [98,97,100]),
 ([102,97,105,108,32,49],false, [98,97,100]),
 ([102,97,105,108,32,49,32,120],false, [98,97,100]),
 ([102,97,105,108,32,49,32,48,50],false, [98,97,100]),
 ([100,111,110,101,32,49,32,49],false, [98,97,100]),
 ([100,111,110,101,32,49,32,49,32,120,32,121],false, [98,97,100]),
 ([98,101,97,116,32,49],false, [98,97,100]),
 ([100,114,97,105,110,32,49],false, [98,97,100]),
 ([],true, [98,97,100]),
 ([112,117,108,108],true, [98,97,100]),
 ([112,117,108,108,32,48,48,48,48,48,48,48,48],true, [98,97,100]),
 ([112,117,108,108,32,55,48,55,53,54,99,54,99,32],true, [98,97,100]),
 ([32,112,117,108,108,32,55,48,55,53,54,99,54,99],true, [98,97,100]),
 ([112,117,108,108,32,55,48,55,53,54,99,54],true, [98,97,100]),
 ([112,117,108,108,55,48,55,53,54,99,54,99],true, [98,97,100]),
 ([112,117,108,108,32,55,48,55,53,54,99,54,99,13],true, [98,97,100]),
 ([112,117,108,108,32,55,48,55,53,54,67,54,67],true, [98,97,100]),
 ([112,117,108,108,32,55,48,55,53,54,99,54,100],true, [98,97,100]),
 ([112,117,108,108,32,55,48,55,53,54,100,54,99],true, [98,97,100]),
 ([112,117,108,108,32,55,48,55,54,54,99,54,99],true, [98,97,100]),
 ([112,117,108,108,32,55,49,55,53,54,99,54,99],true, [98,97,100]),
 ([97,98,48,48,48,48,48,48],true, [98,97,100]),
 ([32,48,48,48,48,48,48,48,48],true, [98,97,100]),
 ([112,117,108,108,32,55,48,55,53,54,99,54,99],true, []),
 ([115,117,98,32,49,32,97,32,120,32,49,54,55,102,56,55,56,48],true, [97,99,99,32,49])]
def fu:ic:=⟨5,0,1,1,0⟩
def dh(x:Bs×Bool×Bs):Bs:=if x.2.1 then x.1 else aP.line x.1
def PG(x:Bs×Bool×Bs):Bool:=decide (((St.init fu).feed (-3) (dh x)).out= []) &&decide (((((St.init fu).feed (-3) (dh x)).told).feed (-3) [10]).out=if x.2.2= []then []else [(-3,x.2.2)]) &&decide ((cD 10 (dh x)).length=1) &&decide (x.1.length<=100) &&decide (x.2.2.length<=100)
theorem N8:eh.all PG=true:=by decide+kernel
theorem Oa:eh.length=70:=by decide+kernel
end Kp
namespace Kp
open Go.RowKit aD Mc Mr Lw bA
attribute [local go_sem] aP.ae aP.ah
def Ew(x:Bs×Bool×Bs):List Value:= [.string ⟨x.1.toArray⟩, .bool x.2.1, .string ⟨x.2.2.toArray⟩]
def N7:List ic:= [⟨1,0,1,1,0⟩,⟨20,5,5,8,20⟩,⟨0,0,0,0,0⟩,⟨0,0,1,1,0⟩,⟨21,0,1,1,0⟩,⟨1,(-1),1,1,0⟩,⟨1,6,1,1,0⟩,⟨1,0,0,1,0⟩,⟨1,0,6,1,0⟩,⟨1,0,1,0,0⟩,⟨1,0,1,9,0⟩,⟨1,0,1,1,(-1)⟩,⟨1,0,1,1,21⟩]
def SV(o:ic):List Value:= [.int .i64 o.le, .int .i64 o.re, .int .i64 o.ca, .int .i64 o.bo, .int .i64 o.he]
def gQ:Array Value:=(flat SV N7).toArray
def sw:Array Value:= #[.bool true, .bool true, .bool false, .bool false, .bool false, .bool false, .bool false, .bool false, .bool false, .bool false, .bool false, .bool false, .bool false]
def df(k:Nat):Bs:= [115,117,98,32,49,32,97,32]++List.replicate k 120
theorem lB(k:Nat):(df k).length=8+k:=by unfold df;rw[aC,List.length_replicate];rfl
def fh:Array Value:= #[
 .string ⟨#[115,117,98,32,48,32,97,32,120]⟩, .bool false, .string ⟨#[97,99,99,32,48]⟩,
 .string ⟨#[115,117,98,32,57,57,57,57,57,57,32,97,98,99,100,101,102,32,49,50,51,52,53,54,55,56,57,48,49,50]⟩, .bool false, .string ⟨#[97,99,99,32,57,57,57,57,57,57]⟩,
 .string ⟨#[115,117,98,32,49,32,206,177,207,137,32,126,33,194,161,239,191,191]⟩, .bool false, .string ⟨#[97,99,99,32,49]⟩,
 .string ⟨#[115,117,98,32,49,32,97,98,99,206,177,206,178,206,179,32,195,169,195,169,195,169,195,169,195,169,195,169,195,169,195,169,195,169,195,169,195,169,195,169]⟩, .bool false, .string ⟨#[97,99,99,32,49]⟩,
 .string ⟨#[99,97,110,32,49]⟩, .bool false, .string ⟨#[110,111,110,101,32,49]⟩,
 .string ⟨#[112,117,108,108]⟩, .bool false, .string ⟨#[]⟩,
 .string ⟨#[98,101,97,116]⟩, .bool false, .string ⟨#[]⟩,
 .string ⟨#[100,114,97,105,110]⟩, .bool false, .string ⟨#[98,121,101]⟩,
 .string ⟨#[100,111,110,101,32,49,32,49,32,120]⟩, .bool false, .string ⟨#[]⟩,
 .string ⟨#[102,97,105,108,32,49,32,49]⟩, .bool false, .string ⟨#[]⟩,
 .string ⟨#[100,111,110,101,32,48,32,48,32,120]⟩, .bool false, .string ⟨#[]⟩,
 .string ⟨#[115,117,98,32,48,49,32,97,32,120]⟩, .bool false, .string ⟨#[98,97,100]⟩,
 .string ⟨#[115,117,98,32,49,48,48,48,48,48,48,32,97,32,120]⟩, .bool false, .string ⟨#[98,97,100]⟩,
 .string ⟨#[115,117,98,32,45,49,32,97,32,120]⟩, .bool false, .string ⟨#[98,97,100]⟩,
 .string ⟨#[115,117,98,32,32,97,32,120]⟩, .bool false, .string ⟨#[98,97,100]⟩,
 .string ⟨#[115,117,98,32,49,32,97,98,99,100,101,102,103,32,120]⟩, .bool false, .string ⟨#[98,97,100]⟩,
 .string ⟨#[115,117,98,32,49,32,206,177,206,178,206,179,206,180,206,181,206,182,206,183,32,120]⟩, .bool false, .string ⟨#[98,97,100]⟩,
 .string ⟨#[115,117,98,32,49,32,65,32,120]⟩, .bool false, .string ⟨#[98,97,100]⟩,
 .string ⟨#[115,117,98,32,49,32,97,49,32,120]⟩, .bool false, .string ⟨#[98,97,100]⟩,
 .string ⟨#[115,117,98,32,49,32,206,172,32,120]⟩, .bool false, .string ⟨#[98,97,100]⟩,
 .string ⟨#[115,117,98,32,49,32,97,32,49,50,51,52,53,54,55,56,57,48,49,50,51]⟩, .bool false, .string ⟨#[98,97,100]⟩,
 .string ⟨#[115,117,98,32,49,32,97,32,195,169,195,169,195,169,195,169,195,169,195,169,195,169,195,169,195,169,195,169,195,169,195,169,195,169,195,169]⟩, .bool false, .string ⟨#[98,97,100]⟩,
 .string ⟨#[115,117,98,32,49,32,97]⟩, .bool false, .string ⟨#[98,97,100]⟩,
 .string ⟨#[115,117,98,32,49,32,97,32,120,32,121]⟩, .bool false, .string ⟨#[98,97,100]⟩,
 .string ⟨#[115,117,98,32,49,32,97,32]⟩, .bool false, .string ⟨#[98,97,100]⟩,
 .string ⟨#[115,117,98,32,49,32,32,120]⟩, .bool false, .string ⟨#[98,97,100]⟩,
 .string ⟨#[115,117,98,32,49,32,97,32,127]⟩, .bool false, .string ⟨#[98,97,100]⟩,
 .string ⟨#[115,117,98,32,49,32,97,32,194,160]⟩, .bool false, .string ⟨#[98,97,100]⟩,
 .string ⟨#[115,117,98,32,49,32,97,32,9]⟩, .bool false, .string ⟨#[98,97,100]⟩,
 .string ⟨#[115,117,98,32,49,32,97,32,128]⟩, .bool false, .string ⟨#[98,97,100]⟩,
 .string ⟨#[115,117,98,32,49,32,97,32,195]⟩, .bool false, .string ⟨#[98,97,100]⟩,
 .string ⟨#[115,117,98,32,49,32,97,32,192,161]⟩, .bool false, .string ⟨#[98,97,100]⟩,
 .string ⟨#[115,117,98,32,49,32,97,32,237,160,128]⟩, .bool false, .string ⟨#[98,97,100]⟩,
 .string ⟨#[115,117,98,32,49,32,97,32,240,159,152,128]⟩, .bool false, .string ⟨#[98,97,100]⟩,
 .string ⟨#[115,117,98,32,49,32,97,32,224,128,161]⟩, .bool false, .string ⟨#[98,97,100]⟩,
 .string ⟨(df 64).toArray⟩, .bool false, .string ⟨#[98,97,100]⟩,
 .string ⟨#[]⟩, .bool false, .string ⟨#[98,97,100]⟩,
 .string ⟨#[32]⟩, .bool false, .string ⟨#[98,97,100]⟩,
 .string ⟨#[112,117,108,108,32]⟩, .bool false, .string ⟨#[98,97,100]⟩,
 .string ⟨#[32,112,117,108,108]⟩, .bool false, .string ⟨#[98,97,100]⟩,
 .string ⟨#[112,117,108,108,32,49]⟩, .bool false, .string ⟨#[98,97,100]⟩,
 .string ⟨#[80,117,108,108]⟩, .bool false, .string ⟨#[98,97,100]⟩,
 .string ⟨#[112,117,108,108,115]⟩, .bool false, .string ⟨#[98,97,100]⟩,
 .string ⟨#[99,97,110]⟩, .bool false, .string ⟨#[98,97,100]⟩,
 .string ⟨#[99,97,110,32,120]⟩, .bool false, .string ⟨#[98,97,100]⟩,
 .string ⟨#[99,97,110,32,49,32,50]⟩, .bool false, .string ⟨#[98,97,100]⟩,
 .string ⟨#[102,97,105,108,32,49]⟩, .bool false, .string ⟨#[98,97,100]⟩,
 .string ⟨#[102,97,105,108,32,49,32,120]⟩, .bool false, .string ⟨#[98,97,100]⟩,
 .string ⟨#[102,97,105,108,32,49,32,48,50]⟩, .bool false, .string ⟨#[98,97,100]⟩,
 .string ⟨#[100,111,110,101,32,49,32,49]⟩, .bool false, .string ⟨#[98,97,100]⟩,
 .string ⟨#[100,111,110,101,32,49,32,49,32,120,32,121]⟩, .bool false, .string ⟨#[98,97,100]⟩,
 .string ⟨#[98,101,97,116,32,49]⟩, .bool false, .string ⟨#[98,97,100]⟩,
 .string ⟨#[100,114,97,105,110,32,49]⟩, .bool false, .string ⟨#[98,97,100]⟩,
 .string ⟨#[]⟩, .bool true, .string ⟨#[98,97,100]⟩,
 .string ⟨#[112,117,108,108]⟩, .bool true, .string ⟨#[98,97,100]⟩,
 .string ⟨#[112,117,108,108,32,48,48,48,48,48,48,48,48]⟩, .bool true, .string ⟨#[98,97,100]⟩,
 .string ⟨#[112,117,108,108,32,55,48,55,53,54,99,54,99,32]⟩, .bool true, .string ⟨#[98,97,100]⟩,
 .string ⟨#[32,112,117,108,108,32,55,48,55,53,54,99,54,99]⟩, .bool true, .string ⟨#[98,97,100]⟩,
 .string ⟨#[112,117,108,108,32,55,48,55,53,54,99,54]⟩, .bool true, .string ⟨#[98,97,100]⟩,
 .string ⟨#[112,117,108,108,55,48,55,53,54,99,54,99]⟩, .bool true, .string ⟨#[98,97,100]⟩,
 .string ⟨#[112,117,108,108,32,55,48,55,53,54,99,54,99,13]⟩, .bool true, .string ⟨#[98,97,100]⟩,
 .string ⟨#[112,117,108,108,32,55,48,55,53,54,67,54,67]⟩, .bool true, .string ⟨#[98,97,100]⟩,
 .string ⟨#[112,117,108,108,32,55,48,55,53,54,99,54,100]⟩, .bool true, .string ⟨#[98,97,100]⟩,
 .string ⟨#[112,117,108,108,32,55,48,55,53,54,100,54,99]⟩, .bool true, .string ⟨#[98,97,100]⟩,
 .string ⟨#[112,117,108,108,32,55,48,55,54,54,99,54,99]⟩, .bool true, .string ⟨#[98,97,100]⟩,
 .string ⟨#[112,117,108,108,32,55,49,55,53,54,99,54,99]⟩, .bool true, .string ⟨#[98,97,100]⟩,
 .string ⟨#[97,98,48,48,48,48,48,48]⟩, .bool true, .string ⟨#[98,97,100]⟩,
 .string ⟨#[32,48,48,48,48,48,48,48,48]⟩, .bool true, .string ⟨#[98,97,100]⟩,
 .string ⟨#[112,117,108,108,32,55,48,55,53,54,99,54,99]⟩, .bool true, .string ⟨#[]⟩,
 .string ⟨#[115,117,98,32,49,32,97,32,120,32,49,54,55,102,56,55,56,48]⟩, .bool true, .string ⟨#[97,99,99,32,49]⟩]
theorem lA:fh=(flat Ew eh).toArray:=by kernel_rfl
def strSize:Value->Nat
 | .string s=>s.size
 |_=>0
noncomputable def qH (P:Program) (ops:Array Oper):List Nat->Act->World->Option (Act×World)
 | [],a,w=>some (a,w)
 |i::r,a,w=>
  match ops[i]? with
  |none=>none
  |some o=>
   if Region.wanted o (yielded ops a.tmps)then
    match (execOp a.eval o).run P w with
    | .ok (.value v) w'=>qH P ops r (a.put o.dst v) w'
    |_=>none
   else none
theorem wJ{P:Program}{ops:Array Oper}{Q:Exit->Act->World->Prop}: ∀(l:List Nat) (a:Act) (w:World) {a':Act} {w':World},qH P ops l a w=some (a',w')->Q .normal a' w'->wpOps P ops Q l a w
 | [],a,w,a',w',h,hq=>by unfold qH at h;cases h;exact hq
 |i::r,a,w,a',w',h,hq=>by
  unfold qH at h;simp only[wpOps];cases ho:ops[i]? with
  |none=>rw[ho]at h;cases h
  |some o=>
   rw[ho]at h;dsimp only at h⊢;by_cases hw:Region.wanted o (yielded ops a.tmps)=true
   ·rw[if_pos hw]at h;rw[if_pos hw];left;unfold Oper.wp;generalize(execOp a.eval o).run P w=rr at h;split at h
    ·exact wJ r _ _ h hq
    ·cases h
   ·rw[if_neg hw]at h;cases h
noncomputable def B8 (P:Program) (fn:Func) (ops:Array Oper) (a:Act) (w:World):Option (Value×World×World):=
 match qH P ops (List.range ops.size) a w with
 |some (a',w')=>if a'.defers.isEmpty then(match (results fn a'.tmps).run P w' with| .ok v fM=>some (v,w',fM)|_=>none)else none
 |none=>none
theorem E4{P:Program}{fn:Func}{ops:Array Oper}{a:Act}{w w':World}{v:Value}{R:Ending->World->Prop}{id:Nat}(h:B8 P fn ops a w=some (v,w',w'))(hR:R (.returned v) w'):(Code.seq (.region id ops false) .ret).wp P (bodyPost P fn R) a w:=by
 unfold B8 at h;cases hr:qH P ops (List.range ops.size) a w with
 |none=>rw[hr]at h;cases h
 |some p=>
  obtain⟨a',w2⟩:=p;rw[hr]at h;dsimp only at h;by_cases hd:a'.defers.isEmpty=true
  ·rw[if_pos hd]at h;cases hv:(results fn a'.tmps).run P w2 with
   |halt x y=>rw[hv]at h;cases h
   |ok v2 w3=>rw[hv]at h;cases h;refine wp_seq (wp_region (wJ _ _ _ hr ?_));exact wp_ret ⟨List.isEmpty_iff.1 hd,v,hv,hR⟩
  ·rw[if_neg hd]at h;cases h
noncomputable def qz:Code:=match f33.body with|some (.seq _ (.seq _ (.seq _ t)))=>t|_=> .skip
noncomputable def Ay:Array Oper:=match qz with| .seq (.region _ o _) _=>o|_=> #[]
theorem xM:qz= .seq (.region 4 Ay false) .ret:=by kernel_rfl
theorem FQ(u2 u3 u4 u5 u6:Value)(w:World):B8 prog f33 Ay ⟨#[.slice none 0 0, .string ⟨(df 64).toArray⟩,u2,u3,u4,u5,u6,undef,undef,undef,undef,undef,undef,undef,undef,undef,undef,undef,undef,undef,undef,undef,undef,undef,undef,undef,undef,undef,undef,undef,undef,undef,undef,undef,undef,undef,undef,undef,undef,undef,undef,undef,undef,undef,undef,undef,undef,undef,undef,undef,undef,undef,undef,undef,undef,undef,undef,undef,undef,undef,undef,undef,undef,undef,undef,undef,undef,undef,undef,undef,undef,undef,undef,undef,undef,undef,undef,undef,undef], []⟩ w=some (.slice (some ⟨w.heap.size,0,none⟩) 70 70,w.alloc (.cells fh 67),w.alloc (.cells fh 67)):=by kernel_rfl
theorem lines_any(w:World):Calls prog 33 #[] w fun e w'=>e= .returned (.slice (some ⟨w.heap.size,0,none⟩) 70 70)∧w'=w.alloc (.cells fh 67):=by
 have HL:Hid (∀k,(⟨(df k).toArray⟩:ByteArray)++⟨#[120]⟩=⟨(df (k+1)).toArray⟩):=fun k=>by have h:=a6 (df k) [120];rw[show df k++ [120]=df (k+1)by unfold df;rw[List.append_assoc,List.replicate_succ']]at h;exact h
 go_enter func33,ntmps33;refine wp_seq ?_;go_wp2_with fail;rename_i Q' K aK;have hK: ∀u2 u3 u4 u5 u6:Value,K ⟨#[.slice none 0 0, .string ⟨(df 64).toArray⟩,u2,u3,u4,u5,u6,undef,undef,undef,undef,undef,undef,undef,undef,undef,undef,undef,undef,undef,undef,undef,undef,undef,undef,undef,undef,undef,undef,undef,undef,undef,undef,undef,undef,undef,undef,undef,undef,undef,undef,undef,undef,undef,undef,undef,undef,undef,undef,undef,undef,undef,undef,undef,undef,undef,undef,undef,undef,undef,undef,undef,undef,undef,undef,undef,undef,undef,undef,undef,undef,undef,undef,undef,undef,undef,undef,undef,undef], []⟩ w:=fun u2 u3 u4 u5 u6=>by
  have h:qz.wp prog (bodyPost prog f33 fun e w'=>e= .returned (.slice (some ⟨w.heap.size,0,none⟩) 70 70)∧w'=w.alloc (.cells fh 67)) ⟨#[.slice none 0 0, .string ⟨(df 64).toArray⟩,u2,u3,u4,u5,u6,undef,undef,undef,undef,undef,undef,undef,undef,undef,undef,undef,undef,undef,undef,undef,undef,undef,undef,undef,undef,undef,undef,undef,undef,undef,undef,undef,undef,undef,undef,undef,undef,undef,undef,undef,undef,undef,undef,undef,undef,undef,undef,undef,undef,undef,undef,undef,undef,undef,undef,undef,undef,undef,undef,undef,undef,undef,undef,undef,undef,undef,undef,undef,undef,undef,undef,undef,undef,undef,undef,undef,undef], []⟩ w:=by rw[xM];exact E4 (FQ u2 u3 u4 u5 u6 w) ⟨rfl,rfl⟩
  exact aK _ _ h
 clear aK;have HK:=hide hK;clear hK;go_loopw [1] (fun v wr=> ∃k:Nat,k<=64∧v= .string ⟨(df k).toArray⟩∧w=wr) (fun v _=>72-strSize v)
 case atStart=>exact⟨0,by omega,rfl,rfl⟩
 case round=>
  obtain⟨k,hk,rfl,rfl⟩:=hrel;have hlen:=lB k;by_cases aQ:k<64
  ·have tF:((df k).length:Int)<72:=by omega
   have yB: ¬9223372036854775807<(df k).length+1:=by omega
   have YM:=hide (HL.out k);have pQ:=hide hlen;clear hlen;go_wp2;go_roundw
   case rel=>exact⟨k+1,by omega,by rw[YM.out],by first|trivial|rfl⟩
   case measure=>rw[YM.out];show 72-(df (k+1)).length<72-(df k).length;rw[lB,lB];omega
  ·obtain rfl:k=64:=by omega
   have tF: ¬((df 64).length:Int)<72:=by omega
   go_wp2;exact HK.out _ _ _ _ _
theorem Yf(w:World):Sem.run prog (Instr.makeSlice 60 (.int .i64 13) (.int .i64 13)) w= .ok (.slice (some ⟨w.heap.size,0,none⟩) 13 13) (w.alloc (.cells #[.bool false, .bool false, .bool false, .bool false, .bool false, .bool false, .bool false, .bool false, .bool false, .bool false, .bool false, .bool false, .bool false] 4)):=by kernel_rfl
attribute [local go_sem] Yf
theorem zl(w:World):Calls prog 34 #[] w fun e w'=>e= .returned (.tuple #[.slice (some ⟨w.heap.size,0,none⟩) 13 13, .slice (some ⟨w.heap.size+1,0,none⟩) 13 13])∧w'=(w.alloc (.cells gQ 30)).alloc (.cells sw 4):=by
 go_enter func34,ntmps34;go_wp2
 go_ret2
 exact⟨rfl,rfl⟩
structure P1(j:Nat)(o:ic):Prop where
 c0:gQ[j*5]?=some (.int .i64 o.le)
 c1:gQ[j*5+1]?=some (.int .i64 o.re)
 c2:gQ[j*5+2]?=some (.int .i64 o.ca)
 c3:gQ[j*5+3]?=some (.int .i64 o.bo)
 c4:gQ[j*5+4]?=some (.int .i64 o.he)
 ok:sw[j]?=some (.bool o.fine)
 b0:I64 o.le
 b1:I64 o.re
 b2:I64 o.ca
 b3:I64 o.bo
 b4:I64 o.he
theorem oL{c:Int}(h:decide (-9223372036854775808<=c) &&decide (c<=9223372036854775807)=true):I64 c:=by simpa[I64]using h
theorem N9{j:Nat}(hj:j<13): ∃o,P1 j o:=by
 obtain rfl|rfl|rfl|rfl|rfl|rfl|rfl|rfl|rfl|rfl|rfl|rfl|rfl:j=0∨j=1∨j=2∨j=3∨j=4∨j=5∨j=6∨j=7∨j=8∨j=9∨j=10∨j=11∨j=12:=by omega
 all_goals exact⟨_,⟨rfl,rfl,rfl,rfl,rfl,rfl,oL rfl,oL rfl,oL rfl,oL rfl,oL rfl⟩⟩
theorem KV{k:Nat}(hk:k<70): ∃x,x∈eh∧fh[k*3]?=some (.string ⟨x.1.toArray⟩)∧fh[k*3+1]?=some (.bool x.2.1)∧fh[k*3+2]?=some (.string ⟨x.2.2.toArray⟩):=by
 have hl:k<eh.length:=by rw[Oa];exact hk
 have h0:=js (f:=Ew) (size:=3) (fun _=>rfl) eh k 0 hl (by omega);have h1:=js (f:=Ew) (size:=3) (fun _=>rfl) eh k 1 hl (by omega);have h2:=js (f:=Ew) (size:=3) (fun _=>rfl) eh k 2 hl (by omega);rw[Nat.add_zero]at h0;refine⟨eh[k]'hl,bY hl, ?_, ?_, ?_⟩
 ·rw[lA,List.getElem?_toArray,h0];rfl
 ·rw[lA,List.getElem?_toArray,h1];rfl
 ·rw[lA,List.getElem?_toArray,h2];rfl
theorem KW{x:Bs×Bool×Bs}(hx:x∈eh):((St.init fu).feed (-3) (dh x)).out= []∧((((St.init fu).feed (-3) (dh x)).told).feed (-3) [10]).out=(if x.2.2= []then []else [(-3,x.2.2)])∧(cD 10 (dh x)).length=1∧x.1.length<=100∧x.2.2.length<=100:=by have h:=List.all_eq_true.1 N8 x hx;unfold PG at h;simp only[a8,decide_eq_true_eq]at h;exact⟨h.1.1.1.1,h.1.1.1.2,h.1.1.2,h.1.2,h.2⟩
section
variable{w:World}{P:iC w.heap.size w}
theorem wH(P:iC w.heap.size w)(wp:Nat){x:Bs×Bool×Bs}(hx:x∈eh)(R:aD){w1:World}(bz:Goes (aa (keepA P wp (St.init fu)) R) w (fun _=>False) w1): ∃y,w1.cell? ⟨wp,0,none⟩=some (.pointer (some ⟨y,0,none⟩))∧Calls prog 29 #[.pointer (some ⟨y,0,none⟩), .int .i64 (-3), .string ⟨(dh x).toArray⟩] w1 fun e w2=> ∃ao cap,e= .returned (.slice ao 0 cap)∧ ∃y2,w2.cell? ⟨wp,0,none⟩=some (.pointer (some ⟨y2,0,none⟩))∧Calls prog 29 #[.pointer (some ⟨y2,0,none⟩), .int .i64 (-3), .string ⟨#[10]⟩] w2 fun e w3=> ∃v s3,e= .returned v∧Goes (aa (dT v (if x.2.2= []then []else [(-3,x.2.2)])) (aa (keepA P wp s3) R)) w (fun _=>False) w3:=by
 obtain⟨h1,h2,h3,h4,_⟩:=KW hx;have O9:fu.fine=true:=rfl;have hlen:(dh x).length<=200:=by
  unfold dh;split
  ·omega
  ·have:(aP.line x.1).length=x.1.length+9:=by simp[aP.line,aP.hex,aP.two]
   omega
 obtain⟨y,hy,hc⟩:=lX P wp (-3) ⟨by omega,by omega⟩ ⟨(dh x).toArray⟩ (by show(dh x).length<=2097152;omega) (St.init fu) (Mc.Good.start O9) (by show 0+(cD 10 (dh x)).length<=1299999;omega) R (af _) (ar _ _) jy bz;refine⟨y,hy,(hc w1 (ar _ _)).mono ?_⟩;rintro e w2⟨v,rfl,hg,_⟩;have e1:((St.init fu).feed (-3) (⟨(dh x).toArray⟩:ByteArray).data.toList).out= []:=h1;rw[e1]at hg;have eO:=hg.eq (show _=aa (dT v []) (aa (keepA P wp ((St.init fu).feed (-3) (dh x)).told) R)from bn _ _ _);obtain⟨Gv,_,LQ,_,_,_,_⟩:=eO.pieces;obtain⟨ao,cap,LY,_,_⟩:=fI LQ;have eP:Goes (aa (keepA P wp ((St.init fu).feed (-3) (dh x)).told) R) w (fun _=>False) w2:=(eO.eq (aZ _ _)).drop;refine⟨ao,cap,by rw[LY];rfl, ?_⟩;have TR:Mc.Good 1 ((St.init fu).feed (-3) (dh x)).told:=((Mc.Good.start O9).feed (-3) (dh x) (af 1) (by omega)).told;obtain⟨y2,XV,Nc⟩:=lX P wp (-3) ⟨by omega,by omega⟩ ⟨#[10]⟩ (by decide) _ TR (by decide+kernel) R (af _) (ar _ _) jy eP;refine⟨y2,XV,(Nc w2 (ar _ _)).mono ?_⟩;rintro e w3⟨v3,rfl,gL,_⟩;have e2:((((St.init fu).feed (-3) (dh x)).told).feed (-3) (⟨#[10]⟩:ByteArray).data.toList).out=_:=h2;rw[e2]at gL;exact⟨v3,_,rfl,gL.eq (bn _ _ _)⟩
end
theorem AW(k0:Int)(w:World)(P:iC w.heap.size w)(h1:I64 k0):Calls prog 16 #[.int .i64 k0] w fun e w'=>e= .returned (.bool true)∧Below w.heap.size w w':=by
 obtain⟨k,hk⟩: ∃k,dX k0 83=k:=⟨_,rfl⟩;have ny:k<83:=hk▸dZ k0 83 (by omega);have Dw:Hid (∀w,Calls prog 20 #[.int .i64 k0, .int .i64 83] w fun e w'=>e= .returned (.int .i64 (k:Int))∧w'=w):=fun w=>hk▸pick_any k0 83 w (by omega) (by omega) h1;clear hk h1;go_enter func16,ntmps16;go_wp2_with fail;refine(lines_any _).mono ?_;rintro e wl⟨rfl,jg⟩;have Mk:=hide jg;have cY:wl.heap.size=w.heap.size+1:=by rw[jg,World.size_alloc]
 have Sz:=hide cY;clear jg cY;go_wp2_with fail;refine(zl _).mono ?_;rintro e W⟨rfl,hW⟩;have hB:Below w.heap.size w W:=by rw[hW,Mk.out];exact(((ar _ _).alloc (af _) _).alloc (by simp only[World.size_alloc];omega) _).alloc (by simp only[World.size_alloc];omega) _
 have hz:W.heap.size=w.heap.size+3:=by rw[hW,World.size_alloc,World.size_alloc,Sz.out]
 have D7:W.heap[w.heap.size]?=some (.cells fh 67 (0,0)):=by rw[hW,Below.heap_alloc _ _ _ (by simp only[World.size_alloc];have:=Sz.out;omega),Below.heap_alloc _ _ _ (by have:=Sz.out;omega),Mk.out];exact heap_alloc_new _ _
 have tF:W.heap[wl.heap.size]?=some (.cells gQ 30 (0,0)):=by rw[hW,Below.heap_alloc _ _ _ (by simp only[World.size_alloc];omega)];exact heap_alloc_new _ _
 have yB:W.heap[wl.heap.size+1]?=some (.cells sw 4 (0,0)):=by have:=heap_alloc_new (wl.alloc (.cells gQ 30)) (.cells sw 4);rw[World.size_alloc,<-hW]at this;exact this
 have HB:=hide hB;have HZ:=hide hz;have LL:=hide D7;have Mb:=hide tF;have Rw:=hide yB;clear hW hB hz D7 tF yB Mk;go_wp2_with fail;refine(Dw.out _).mono ?_;rintro e wq⟨rfl,hq⟩;subst wq;clear Dw;by_cases aQ:k<70
 ·obtain⟨x,hx,x0,x1,x2⟩:=KV aQ;obtain⟨t,pl,sa⟩:=x;have hd: ¬(70:Int)<=(k:Int):=by omega
  have yG:Hid (Calls prog 21 #[.agg #[.int .i64 5, .int .i64 0, .int .i64 1, .int .i64 1, .int .i64 0]] W (pO P fu W)):=fB P fu rfl W HB.out.size HB.out;have HX:=hide hx;have YZ:=hide x0;have Y0:=hide x1;have Dx:=hide x2;clear hx x0 x1 x2;go_wp2_with fail;refine yG.out.mono ?_;rintro e w4⟨wp,rfl,gL⟩;have o4:=gL.only;have kQ:w4.heap[w.heap.size]?=some (.cells fh 67 (0,0)):=by rw[o4.block _ (by have:=HZ.out;omega) (fun h=>h)];exact LL.out
  have c0:w4.cell? ⟨w.heap.size,k*3,none⟩=some (.string ⟨t.toArray⟩):=(b9 kQ).trans YZ.out;have c1:w4.cell? ⟨w.heap.size,k*3+1,none⟩=some (.bool pl):=(b9 kQ).trans Y0.out;have c2:w4.cell? ⟨w.heap.size,k*3+2,none⟩=some (.string ⟨sa.toArray⟩):=(b9 kQ).trans Dx.out;have yJ:Hid (Goes (aa (keepA P wp (St.init fu)) (blk w4.heap.size (.cells #[.string ⟨t.toArray⟩, .bool pl, .string ⟨sa.toArray⟩] 67 (0,0)))) w (fun _=>False) (w4.alloc (.cells #[.string ⟨t.toArray⟩, .bool pl, .string ⟨sa.toArray⟩] 67))):=((jt gL HB.out).alloc _).eq (aZ _ _);have hq4:w.heap.size<w4.heap.size:=by have:=o4.size;have:=HZ.out;omega
  clear gL o4 kQ yG LL Mb Rw YZ Y0 Dx HB HZ Sz;obtain⟨r1,r2,r3,r4,r5⟩:=KW HX.out;have HRL:=hide (show sa.length<=1048576 from au r5 (by decide));have LN:=hide (show t.length<=1048576 from au r4 (by decide));clear r1 r2 r3 r4 r5;have mS:Hid (∀(w7:World) (v:Value) (s3:St),Goes (aa (dT v (if sa= []then []else [(-3,sa)])) (aa (keepA P wp s3) (blk w4.heap.size (.cells #[.string ⟨t.toArray⟩, .bool pl, .string ⟨sa.toArray⟩] 67 (0,0))))) w (fun _=>False) w7->
    w7.cell? ⟨w4.heap.size,2,none⟩=some (.string ⟨sa.toArray⟩)∧w4.heap.size<w7.heap.size∧Below w.heap.size w w7∧(sa= []-> ∃ao cap,v= .slice ao 0 cap)∧
    (sa≠ []->Calls prog 22 #[v, .slice (some ⟨w7.heap.size,0,none⟩) 1 1, .slice (some ⟨w7.heap.size+1,0,none⟩) 1 1] ((w7.alloc (.cells #[.int .i64 (-3)] 3)).alloc (.cells #[.string ⟨sa.toArray⟩] 9)) fun e w8=>e= .returned (.bool true)∧Below w.heap.size w w8)):=fun w7 v s3 ik=>by
   have h7:=ik.eq (show _=aa (blk w4.heap.size (.cells #[.string ⟨t.toArray⟩, .bool pl, .string ⟨sa.toArray⟩] 67 (0,0))) (aa (dT v (if sa= []then []else [(-3,sa)])) (keepA P wp s3))by ac_rfl);obtain⟨F7,RJ⟩:=h7.facts;have Z4:=(bQ RJ).1;refine⟨(b9 Z4).trans rfl,(bZ.1 Z4).1,ik.toBelow,fun hs=> ?_,fun hs=> ?_⟩
   ·rw[if_pos hs]at ik;obtain⟨Gv,_,LQ,_,_,_,_⟩:=ik.pieces;obtain⟨ao,cap,LY,_,_⟩:=fI LQ;exact⟨ao,cap,LY⟩
   ·rw[if_neg hs]at ik;obtain⟨a1,a2,a3⟩:=tW w7 (.cells #[.int .i64 (-3)] 3) (.cells #[.string ⟨sa.toArray⟩] 9);exact(qo P _ (af _) (ar _ _) jy ik a3 (one_le HRL.out) (n:=1) rfl (by omega) a1 a2).mono fun _ _ ⟨he,hg⟩=>⟨he,hg.toBelow⟩
  cases pl
  focus
   have uH:Hid (Calls prog 28 #[.string ⟨t.toArray⟩] (w4.alloc (.cells #[.string ⟨t.toArray⟩, .bool false, .string ⟨sa.toArray⟩] 67)) fun e fM=>e= .returned (.string ⟨(aP.line t).toArray⟩)∧Below (w4.alloc (.cells #[.string ⟨t.toArray⟩, .bool false, .string ⟨sa.toArray⟩] 67)).heap.size (w4.alloc (.cells #[.string ⟨t.toArray⟩, .bool false, .string ⟨sa.toArray⟩] 67)) fM):=P.sums ⟨t.toArray⟩ _ yJ.out.toBelow.size yJ.out.toBelow LN.out;go_wp2_with fail;refine uH.out.mono ?_;rintro e w5⟨rfl,pM⟩;obtain⟨y,cy,hf⟩:=wH P wp HX.out _ (yJ.out.below pM);have HF:Hid (Calls prog 29 #[.pointer (some ⟨y,0,none⟩), .int .i64 (-3), .string ⟨(aP.line t).toArray⟩] w5 _):=hf;clear hf pM yJ uH c0 c1 c2 HX;generalize aP.line t=tx at*;go_wp2_with fail
  rotate_left
  focus
   obtain⟨y,cy,hf⟩:=wH P wp HX.out _ yJ.out;have HF:Hid (Calls prog 29 #[.pointer (some ⟨y,0,none⟩), .int .i64 (-3), .string ⟨t.toArray⟩] _ _):=hf;clear hf;go_wp2_with fail
  all_goals
   refine HF.out.mono ?_;rintro e w6⟨ao,cap,rfl,y2,Zd,xr⟩;have uO:=hide xr;clear xr HF;go_wp2_with fail;refine uO.out.mono ?_;rintro e w7⟨v,s3,rfl,ik⟩;obtain⟨d2,hq7,r9,Xy,Xm⟩:=mS.out w7 v s3 ik;have VJ:=hide r9;clear ik uO mS r9;rcases sa with _|⟨b1,r1⟩
   ·obtain⟨ao7,aae,rfl⟩:=Xy rfl;clear Xy Xm;go_wp2;go_ret;exact⟨rfl,VJ.out⟩
   ·have Rv:=hide (Xm (by simp));clear Xy Xm;go_wp2_with fail;refine Rv.out.mono ?_;rintro e w8⟨rfl,RN⟩;have HB8:=hide RN;clear RN Rv;go_wp2;go_ret;exact⟨rfl,HB8.out⟩
 ·obtain⟨j,hj⟩: ∃j,j=k-70:=⟨_,rfl⟩;obtain⟨o,ho⟩:=N9 (j:=j) (by omega);have hd:(70:Int)<=(k:Int):=by omega
  have Vp:(k:Int)-70=(j:Int):=by omega
  have aap:j<13:=by omega
  have c0:W.cell? ⟨wl.heap.size,j*5,none⟩=some (.int .i64 o.le):=(b9 Mb.out).trans ho.c0;have c1:W.cell? ⟨wl.heap.size,j*5+1,none⟩=some (.int .i64 o.re):=(b9 Mb.out).trans ho.c1;have c2:W.cell? ⟨wl.heap.size,j*5+2,none⟩=some (.int .i64 o.ca):=(b9 Mb.out).trans ho.c2;have c3:W.cell? ⟨wl.heap.size,j*5+3,none⟩=some (.int .i64 o.bo):=(b9 Mb.out).trans ho.c3;have c4:W.cell? ⟨wl.heap.size,j*5+4,none⟩=some (.int .i64 o.he):=(b9 Mb.out).trans ho.c4;have Du:Hid (∀w',Below W.heap.size W w'->w'.cell? ⟨wl.heap.size+1,j,none⟩=some (.bool o.fine)):=fun w' hb=>by rw[hb.cell (p:=⟨wl.heap.size+1,j,none⟩) (by have:=Sz.out;have:=HZ.out;show wl.heap.size+1<_;omega)];exact(b9 Rw.out).trans ho.ok
  have V0:=hide (P.new o W HB.out.size HB.out ho.b0 ho.b1 ho.b2 ho.b3 ho.b4);have HJ:=hide hj;clear hj ho LL Mb Rw HZ;go_wp2_with fail;refine V0.out.mono ?_;rintro e w5(⟨hf,rfl,pM⟩|⟨hf,x,rfl,fO⟩)
  ·have c5:=Du.out w5 pM;rw[hf]at c5;have Hr:=hide (HB.out.trans (pM.mono HB.out.size));clear pM Du V0 c0 c1 c2 c3 c4 hf;go_wp2;go_ret;exact⟨rfl,Hr.out⟩
  ·have pM:=fO.toBelow;have c5:=Du.out w5 pM;rw[hf]at c5;have Hr:=hide (HB.out.trans (pM.mono HB.out.size));clear pM fO Du V0 c0 c1 c2 c3 c4 hf;go_wp2;go_ret;exact⟨rfl,Hr.out⟩
