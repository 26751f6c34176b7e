import Derived.Test.YtffamlbkmjmipaaGreatDoorC17
import Derived.Test.YtffamlbkmjmipaaGreatDoorC18
import Derived.Test.YtffamlbkmjmipaaGreatDoorC44
import Derived.Test.YtffamlbkmjmipaaGreatDoorK6
set_option maxHeartbeats 8000000
set_option maxRecDepth 100000
namespace Go.Proofs.YtffamlbkmjmipaaGreatDoor
open _root_.Go.Proofs.Tryz
namespace fX
open Go.RowKit Go.Deep Go.ChangeShapes Go.WideShapes Go.ChangeAt
theorem qE(H:Type)(enc:TypeId×Value->H)(W:World)(base:Nat)(args:Array Value)(ds gs:List (DataW H))(before:List MemPlace)(hval: ∀(j:Nat) t v,f16.params[j]?=some t->args[j]?=some v->Value.okWide prog W .any base t v)(hW:DataW.Whole enc prog f16.params.toList Rows.refusesSpec.vars false W args.toList ds gs before)(hL:laidMetH prog Rows.refusesRow.laid W)(lU:W.ShapedOpen prog):Calls prog 16 args W fun e W'=> ∃v,e= .returned v∧Rows.refusesSpec.post enc prog f16 false true false false W args v W':=by
 have zI:=hW;obtain⟨p,q,zH,hV,rfl,RP,gw⟩:=hW;have hA:DataW.TrodAll enc prog W 0 (fun _=>true) true f16.params.toList args.toList ds p:=zH;rw[params16]at hA hval;obtain⟨v0,VF,d0,U8,p0,q0,xo,rfl,rfl,h0,r0⟩:=trodAll_cons hA;obtain⟨rfl,rfl,rfl⟩:=trodAll_nil r0;obtain rfl:args= #[v0]:=by cases args;simp_all
 obtain⟨rfl,rfl⟩:=trodVars_none hV;obtain⟨y0,rfl⟩:=okWide_int underlying3 (hval 0 3 v0 rfl rfl);obtain⟨f0,Nh⟩:=h0;obtain⟨x0,Bz,Nd,wk⟩:=DataW.trod_int underlying3 Nh;simp only[Value.cells,List.cons.injEq,Value.int.injEq,true_and,and_true]at Bz;obtain⟨rfl,rfl⟩:=Prod.mk.inj Nd;subst Bz;clear zH;simp only[List.append_nil]at zI;refine(Kp.AW y0 W (Pj.R5 (bA.FN hL lU)) (Go.Joins.in64_of_wf wk)).mono fun e W' ⟨he,hg⟩=> ?_;subst he;refine⟨_,rfl, [.lit (.int .i64 y0)], [], [], [], [], [],zI, ?_, ?_,rfl,hg.frame _,fun h=>by cases h⟩
 ·exact trodAll_cons_mk (shut_bool underlying4 _) trodAll_mk0
 ·exact trodAll_cons_mk (show DataW.Trod _ _ _ _ _ _ 3 (.int .i64 y0) _ _ from⟨1,trod_int_mk 0 underlying3 wk⟩) trodAll_mk0
theorem uk(os:Os)(started:os.Started)(H:Type)(enc:TypeId×Value->H)(F:Stop.Interp):ReturnsInHanded {} checked os 16 .any ((OpenSpec.ofChange Rows.refusesSpec).preRow enc prog f16 Rows.refusesRow.domain false Rows.refusesRow.laid) (((OpenSpec.ofChange Rows.refusesSpec).at F).post enc prog f16 false true false false):=by
 obtain⟨W0,jX⟩: ∃W0,mX os W0:=⟨_,rfl⟩;obtain⟨places,hx⟩: ∃places,DataW.whole enc prog (W0.forCall (fun _ _=>0) ⟨#[], #[.int .i64 0], []⟩).memory f16.params.toList Rows.refusesSpec.vars false (#[.int .i64 0]:Array Value).toList 8=some ([.lit (.int .i64 0)], [],places):=by cases jX;exact⟨[],by kernel_rfl⟩
 have tG:laidMet prog Rows.refusesRow.laid (W0.forCall (fun _ _=>0) ⟨#[], #[.int .i64 0], []⟩).memory:=laid_met os W0 jX;refine returnsInHanded_of_row (C:=checked) (s:=OpenSpec.ofChange Rows.refusesSpec) own started (by kernel_rfl) func16
  (witness_row_at (enc:=enc) (C:=checked) false W0 #[.int .i64 0] (by cases jX;rfl) (by cases jX;kernel_rfl) (by cases jX;kernel_rfl) (by cases jX;kernel_rfl)
   (OpenSpec.preRow_of_cond 8 hx (by kernel_rfl) (fun k hk=>by cases hk) (by kernel_rfl) tG)) ?_
 intro W base args ds gs before hval hW _ _ _ hL lU _;exact qE H enc W base args ds gs before hval hW hL lU
