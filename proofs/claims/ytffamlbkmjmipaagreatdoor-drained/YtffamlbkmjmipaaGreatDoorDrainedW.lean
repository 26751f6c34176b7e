import Derived.Test.YtffamlbkmjmipaaGreatDoorC17
import Derived.Test.YtffamlbkmjmipaaGreatDoorC18
import Derived.Test.YtffamlbkmjmipaaGreatDoorC44
import Derived.Test.YtffamlbkmjmipaaGreatDoorK4
set_option maxHeartbeats 8000000
set_option maxRecDepth 100000
namespace Go.Proofs.YtffamlbkmjmipaaGreatDoor
open _root_.Go.Proofs.Tryz
namespace fA
open Go.RowKit Go.Deep Go.ChangeShapes Go.WideShapes Go.ChangeAt
theorem drained_contract(H:Type)(enc:TypeId×Value->H)(W:World)(base:Nat)(args:Array Value)(ds gs:List (DataW H))(before:List MemPlace)(hval: ∀(j:Nat) t v,f13.params[j]?=some t->args[j]?=some v->Value.okWide prog W .any base t v)(hW:DataW.Whole enc prog f13.params.toList Rows.drainedSpec.vars false W args.toList ds gs before)(hL:laidMetH prog Rows.drainedRow.laid W)(oh:W.ShapedOpen prog):Calls prog 13 args W fun e W'=> ∃v,e= .returned v∧Rows.drainedSpec.post enc prog f13 false true false false W args v W':=by
 have BM:=hW;obtain⟨p,q,Kp,hV,rfl,Zj,jJ⟩:=hW;have hA:DataW.TrodAll enc prog W 0 (fun _=>true) true f13.params.toList args.toList ds p:=Kp;rw[params13]at hA hval;obtain⟨v0,vs0,d0,ds0,p0,q0,hargs0,rfl,rfl,h0,r0⟩:=trodAll_cons hA;obtain⟨v1,vs1,d1,ds1,p1,q1,hargs1,rfl,rfl,h1,r1⟩:=trodAll_cons r0;obtain⟨rfl,rfl,rfl⟩:=trodAll_nil r1;obtain rfl:args= #[v0,v1]:=by cases args;simp_all
 obtain⟨rfl,rfl⟩:=trodVars_none hV;obtain⟨y0,rfl⟩:=okWide_int underlying3 (hval 0 3 v0 rfl rfl);obtain⟨f0,hf0⟩:=h0;obtain⟨x0,A7,he0,nj⟩:=DataW.trod_int underlying3 hf0;simp only[Value.cells,List.cons.injEq,Value.int.injEq,true_and,and_true]at A7;obtain⟨rfl,rfl⟩:=Prod.mk.inj he0;subst A7;obtain⟨y1,rfl⟩:=okWide_bool underlying4 (hval 1 4 v1 rfl rfl);obtain⟨f1,CW⟩:=h1;obtain⟨x1,pX,he1⟩:=DataW.trod_bool underlying4 CW;simp only[Value.cells,List.cons.injEq,Value.bool.injEq,and_true]at pX;obtain⟨rfl,rfl⟩:=Prod.mk.inj he1;subst pX;clear Kp;simp only[List.append_nil]at BM;refine(KpQ.drained_any y0 y1 W (Pj.prj (bJ.Qm hL oh)) (Go.Joins.in64_of_wf nj)).mono fun e W' ⟨he,hg⟩=> ?_;subst he;refine⟨_,rfl, [.lit (.int .i64 y0), .lit (.bool y1)], [], [], [], [], [],BM, ?_, ?_,rfl,hg.frame _,fun h=>by cases h⟩
 ·exact trodAll_cons_mk (shut_bool underlying4 _) trodAll_mk0
 ·exact trodAll_cons_mk (show DataW.Trod _ _ _ _ _ _ 3 (.int .i64 y0) _ _ from⟨1,trod_int_mk 0 underlying3 nj⟩) (trodAll_cons_mk (shut_bool underlying4 _) trodAll_mk0)
theorem drained_lifted(os:Os)(started:os.Started)(H:Type)(enc:TypeId×Value->H)(F:Stop.Interp):ReturnsInHanded {} checked os 13 .any ((OpenSpec.ofChange Rows.drainedSpec).preRow enc prog f13 Rows.drainedRow.domain false Rows.drainedRow.laid) (((OpenSpec.ofChange Rows.drainedSpec).at F).post enc prog f13 false true false false):=by
 obtain⟨W0,qK⟩: ∃W0,sq os W0:=⟨_,rfl⟩;obtain⟨places,hx⟩: ∃places,DataW.whole enc prog (W0.forCall (fun _ _=>0) ⟨#[], #[.int .i64 0, .bool false], []⟩).memory f13.params.toList Rows.drainedSpec.vars false (#[.int .i64 0, .bool false]:Array Value).toList 8=some ([.lit (.int .i64 0), .lit (.bool false)], [],places):=by cases qK;exact⟨[],by kernel_rfl⟩
 have BQ:laidMet prog Rows.drainedRow.laid (W0.forCall (fun _ _=>0) ⟨#[], #[.int .i64 0, .bool false], []⟩).memory:=laid_met os W0 qK;refine returnsInHanded_of_row (C:=checked) (s:=OpenSpec.ofChange Rows.drainedSpec) own started (by kernel_rfl) func13
  (witness_row_at (enc:=enc) (C:=checked) false W0 #[.int .i64 0, .bool false] (by cases qK;rfl) (by cases qK;kernel_rfl) (by cases qK;kernel_rfl) (by cases qK;kernel_rfl)
   (OpenSpec.preRow_of_cond 8 hx (by kernel_rfl) (fun k hk=>by cases hk) (by kernel_rfl) BQ)) ?_
 intro W base args ds gs before hval hW _ _ _ hL oh _;exact drained_contract H enc W base args ds gs before hval hW hL oh
