import Derived.Test.YtffamlbkmjmipaaGreatDoorC17
import Derived.Test.YtffamlbkmjmipaaGreatDoorC18
import Derived.Test.YtffamlbkmjmipaaGreatDoorC44
import Derived.Test.YtffamlbkmjmipaaGreatDoorK2
set_option maxHeartbeats 8000000
set_option maxRecDepth 100000
namespace Go.Proofs.YtffamlbkmjmipaaGreatDoor
open _root_.Go.Proofs.Tryz
namespace fA
open Go.RowKit Go.Deep Go.ChangeShapes Go.WideShapes Go.ChangeAt
theorem hedged_contract(H:Type)(enc:TypeId×Value->H)(W:World)(base:Nat)(args:Array Value)(ds gs:List (DataW H))(before:List MemPlace)(hval: ∀(j:Nat) t v,f12.params[j]?=some t->args[j]?=some v->Value.okWide prog W .any base t v)(hW:DataW.Whole enc prog f12.params.toList Rows.hedgedSpec.vars false W args.toList ds gs before)(hL:laidMetH prog Rows.hedgedRow.laid W)(oh:W.ShapedOpen prog):Calls prog 12 args W fun e W'=> ∃v,e= .returned v∧Rows.hedgedSpec.post enc prog f12 false true false false W args v W':=by
 have BM:=hW;obtain⟨p,q,Kp,hV,rfl,Zj,jJ⟩:=hW;have hA:DataW.TrodAll enc prog W 0 (fun _=>true) true f12.params.toList args.toList ds p:=Kp;rw[params12]at hA hval;obtain⟨v0,vs0,d0,ds0,p0,q0,hargs0,rfl,rfl,h0,r0⟩:=trodAll_cons hA;obtain⟨v1,vs1,d1,ds1,p1,q1,hargs1,rfl,rfl,h1,r1⟩:=trodAll_cons r0;obtain⟨rfl,rfl,rfl⟩:=trodAll_nil r1;obtain rfl:args= #[v0,v1]:=by cases args;simp_all
 obtain⟨rfl,rfl⟩:=trodVars_none hV;obtain⟨y0,rfl⟩:=okWide_int underlying3 (hval 0 3 v0 rfl rfl);obtain⟨f0,hf0⟩:=h0;obtain⟨x0,A7,he0,nj⟩:=DataW.trod_int underlying3 hf0;simp only[Value.cells,List.cons.injEq,Value.int.injEq,true_and,and_true]at A7;obtain⟨rfl,rfl⟩:=Prod.mk.inj he0;subst A7;obtain⟨y1,rfl⟩:=okWide_int underlying3 (hval 1 3 v1 rfl rfl);obtain⟨f1,CW⟩:=h1;obtain⟨x1,pX,he1,kK⟩:=DataW.trod_int underlying3 CW;simp only[Value.cells,List.cons.injEq,Value.int.injEq,true_and,and_true]at pX;obtain⟨rfl,rfl⟩:=Prod.mk.inj he1;subst pX;clear Kp;simp only[List.append_nil]at BM;refine(KpQ.hedged_any y0 y1 W (Pj.prj (bJ.Qm hL oh)) (Go.Joins.in64_of_wf nj) (Go.Joins.in64_of_wf kK)).mono fun e W' ⟨he,hg⟩=> ?_;subst he;refine⟨_,rfl, [.lit (.int .i64 y0), .lit (.int .i64 y1)], [], [], [], [], [],BM, ?_, ?_,rfl,hg.frame _,fun h=>by cases h⟩
 ·exact trodAll_cons_mk (shut_bool underlying4 _) trodAll_mk0
 ·exact trodAll_cons_mk (show DataW.Trod _ _ _ _ _ _ 3 (.int .i64 y0) _ _ from⟨1,trod_int_mk 0 underlying3 nj⟩) (trodAll_cons_mk (show DataW.Trod _ _ _ _ _ _ 3 (.int .i64 y1) _ _ from⟨1,trod_int_mk 0 underlying3 kK⟩) trodAll_mk0)
theorem hedged_lifted(os:Os)(started:os.Started)(H:Type)(enc:TypeId×Value->H)(F:Stop.Interp):ReturnsInHanded {} checked os 12 .any ((OpenSpec.ofChange Rows.hedgedSpec).preRow enc prog f12 Rows.hedgedRow.domain false Rows.hedgedRow.laid) (((OpenSpec.ofChange Rows.hedgedSpec).at F).post enc prog f12 false true false false):=by
 obtain⟨W0,qK⟩: ∃W0,sq os W0:=⟨_,rfl⟩;obtain⟨places,hx⟩: ∃places,DataW.whole enc prog (W0.forCall (fun _ _=>0) ⟨#[], #[.int .i64 0, .int .i64 0], []⟩).memory f12.params.toList Rows.hedgedSpec.vars false (#[.int .i64 0, .int .i64 0]:Array Value).toList 8=some ([.lit (.int .i64 0), .lit (.int .i64 0)], [],places):=by cases qK;exact⟨[],by kernel_rfl⟩
 have BQ:laidMet prog Rows.hedgedRow.laid (W0.forCall (fun _ _=>0) ⟨#[], #[.int .i64 0, .int .i64 0], []⟩).memory:=laid_met os W0 qK;refine returnsInHanded_of_row (C:=checked) (s:=OpenSpec.ofChange Rows.hedgedSpec) own started (by kernel_rfl) func12
  (witness_row_at (enc:=enc) (C:=checked) false W0 #[.int .i64 0, .int .i64 0] (by cases qK;rfl) (by cases qK;kernel_rfl) (by cases qK;kernel_rfl) (by cases qK;kernel_rfl)
   (OpenSpec.preRow_of_cond 8 hx (by kernel_rfl) (fun k hk=>by cases hk) (by kernel_rfl) BQ)) ?_
 intro W base args ds gs before hval hW _ _ _ hL oh _;exact hedged_contract H enc W base args ds gs before hval hW hL oh
