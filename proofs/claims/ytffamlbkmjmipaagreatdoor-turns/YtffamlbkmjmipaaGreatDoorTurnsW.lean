import Derived.Test.YtffamlbkmjmipaaGreatDoorC17
import Derived.Test.YtffamlbkmjmipaaGreatDoorC18
import Derived.Test.YtffamlbkmjmipaaGreatDoorC44
import Derived.Test.YtffamlbkmjmipaaGreatDoorK9
set_option maxHeartbeats 8000000
set_option maxRecDepth 100000
namespace Go.Proofs.YtffamlbkmjmipaaGreatDoor
open _root_.Go.Proofs.Tryz
namespace fX
open Go.RowKit Go.Deep Go.ChangeShapes Go.WideShapes Go.ChangeAt
theorem turns_contract(H:Type)(enc:TypeId×Value->H)(W:World)(base:Nat)(args:Array Value)(ds gs:List (DataW H))(before:List MemPlace)(hval: ∀(j:Nat) t v,f9.params[j]?=some t->args[j]?=some v->Value.okWide prog W .any base t v)(hW:DataW.Whole enc prog f9.params.toList Rows.turnsSpec.vars false W args.toList ds gs before)(hL:laidMetH prog Rows.turnsRow.laid W)(lU:W.ShapedOpen prog):Calls prog 9 args W fun e W'=> ∃v,e= .returned v∧Rows.turnsSpec.post enc prog f9 false true false false W args v W':=by
 have zI:=hW;obtain⟨p,q,zH,hV,rfl,RP,gw⟩:=hW;have hA:DataW.TrodAll enc prog W 0 (fun _=>true) true f9.params.toList args.toList ds p:=zH;rw[params9]at hA hval;obtain⟨v0,VF,d0,U8,p0,q0,xo,rfl,rfl,h0,r0⟩:=trodAll_cons hA;obtain⟨v1,Yt,d1,Wq,p1,q1,Cg,rfl,rfl,h1,r1⟩:=trodAll_cons r0;obtain⟨rfl,rfl,rfl⟩:=trodAll_nil r1;obtain rfl:args= #[v0,v1]:=by cases args;simp_all
 obtain⟨rfl,rfl⟩:=trodVars_none hV;obtain⟨y0,rfl⟩:=okWide_int underlying3 (hval 0 3 v0 rfl rfl);obtain⟨f0,Nh⟩:=h0;obtain⟨x0,Bz,Nd,wk⟩:=DataW.trod_int underlying3 Nh;simp only[Value.cells,List.cons.injEq,Value.int.injEq,true_and,and_true]at Bz;obtain⟨rfl,rfl⟩:=Prod.mk.inj Nd;subst Bz;obtain⟨y1,rfl⟩:=okWide_int underlying3 (hval 1 3 v1 rfl rfl);obtain⟨f1,Cl⟩:=h1;obtain⟨x1,mA,Nf,fZ⟩:=DataW.trod_int underlying3 Cl;simp only[Value.cells,List.cons.injEq,Value.int.injEq,true_and,and_true]at mA;obtain⟨rfl,rfl⟩:=Prod.mk.inj Nf;subst mA;clear zH;simp only[List.append_nil]at zI;refine(Kp.turns_any y0 y1 W (Pj.R5 (bA.FN hL lU)) (Go.Joins.in64_of_wf wk) (Go.Joins.in64_of_wf fZ)).mono fun e W' ⟨he,hg⟩=> ?_;subst he;refine⟨_,rfl, [.lit (.int .i64 y0), .lit (.int .i64 y1)], [], [], [], [], [],zI, ?_, ?_,rfl,hg.frame _,fun h=>by cases h⟩
 ·exact trodAll_cons_mk (shut_bool underlying4 _) trodAll_mk0
 ·exact trodAll_cons_mk (show DataW.Trod _ _ _ _ _ _ 3 (.int .i64 y0) _ _ from⟨1,trod_int_mk 0 underlying3 wk⟩) (trodAll_cons_mk (show DataW.Trod _ _ _ _ _ _ 3 (.int .i64 y1) _ _ from⟨1,trod_int_mk 0 underlying3 fZ⟩) trodAll_mk0)
theorem turns_lifted(os:Os)(started:os.Started)(H:Type)(enc:TypeId×Value->H)(F:Stop.Interp):ReturnsInHanded {} checked os 9 .any ((OpenSpec.ofChange Rows.turnsSpec).preRow enc prog f9 Rows.turnsRow.domain false Rows.turnsRow.laid) (((OpenSpec.ofChange Rows.turnsSpec).at F).post enc prog f9 false true false false):=by
 obtain⟨W0,jX⟩: ∃W0,mX os W0:=⟨_,rfl⟩;obtain⟨places,hx⟩: ∃places,DataW.whole enc prog (W0.forCall (fun _ _=>0) ⟨#[], #[.int .i64 0, .int .i64 0], []⟩).memory f9.params.toList Rows.turnsSpec.vars false (#[.int .i64 0, .int .i64 0]:Array Value).toList 8=some ([.lit (.int .i64 0), .lit (.int .i64 0)], [],places):=by cases jX;exact⟨[],by kernel_rfl⟩
 have tG:laidMet prog Rows.turnsRow.laid (W0.forCall (fun _ _=>0) ⟨#[], #[.int .i64 0, .int .i64 0], []⟩).memory:=laid_met os W0 jX;refine returnsInHanded_of_row (C:=checked) (s:=OpenSpec.ofChange Rows.turnsSpec) own started (by kernel_rfl) func9
  (witness_row_at (enc:=enc) (C:=checked) false W0 #[.int .i64 0, .int .i64 0] (by cases jX;rfl) (by cases jX;kernel_rfl) (by cases jX;kernel_rfl) (by cases jX;kernel_rfl)
   (OpenSpec.preRow_of_cond 8 hx (by kernel_rfl) (fun k hk=>by cases hk) (by kernel_rfl) tG)) ?_
 intro W base args ds gs before hval hW _ _ _ hL lU _;exact turns_contract H enc W base args ds gs before hval hW hL lU
