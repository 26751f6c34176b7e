import Derived.Test.YtffamlbkmjmipaaGreatDoorB12
import Derived.Test.YtffamlbkmjmipaaGreatDoorB31
import Derived.Test.YtffamlbkmjmipaaGreatDoorB41
import Derived.Test.YtffamlbkmjmipaaGreatDoorB47
set_option maxHeartbeats 8000000
set_option maxRecDepth 100000
namespace Go.Proofs.YtffamlbkmjmipaaGreatDoor
open _root_.Go.Proofs.Tryz
namespace Lw
open Go.RowKit aM Mc Mr fA bJ
attribute [local go_sem] aL.ag aL.ar
theorem Fk(x:fU)(w:World)(hs:x.s.size<=1048576):Calls prog 36 #[.agg x.cs, .int .i64 3] w (pq w):=by
 have HH:Hid (∀w,Calls prog 54 #[.agg x.cs] w fun e w'=>e= .returned (.string ⟨(sF x).toArray⟩)∧w'=w.alloc (.cells x.cs 73)):=fun w=>pY x w hs;have pC:Hid (∀w,Calls prog 56 #[.string x.s] w (jB x.s w)):=fun w=>mN x.s w (by omega);by_cases pK:x.k=3
 ·generalize sF x=h at*;obtain⟨k,a,b,le,re,ca,bo,he,s⟩:=x;simp only at hs pK;subst pK;simp only[fU.cs]at*;go_enter func36,ntmps36;go_wp2_with fail;refine(HH.out _).mono ?_;rintro e w1⟨rfl,rfl⟩;go_wp2_with fail
  go_loop [6] (fun i=> ∃j:Nat,j<=s.size∧i= .int .i64 j) (fun i=>s.size-(intOf i).toNat)
  case atStart=>exact⟨0,aJ _,rfl⟩
  case round=>
   obtain⟨j,hj,rfl⟩:=hrel;by_cases ay:j<s.size
   ·cases hq:((s[j].toNat:Int)==10)
    ·go_wp2
     go_round
     case rel=>exact⟨j+1,by omega,by go_num⟩
     case measure=>simp[intOf];omega
    ·go_wp2;go_ret;exact fG _ _ _ _
   ·obtain rfl:j=s.size:=by omega
    go_wp2
    all_goals go_ret;exact fG _ _ _ _
 ·rw[yA pK]at HH;have y3:(x.k==3)=false:=by rw[beq_eq_false_iff_ne];exact pK
  by_cases vS:x.k=4
  ·obtain⟨k,a,b,le,re,ca,bo,he,s⟩:=x;simp only at hs vS;subst vS;simp only[fU.cs]at*;go_enter func36,ntmps36;go_wp2_with fail;refine(HH.out _).mono ?_;rintro e w1⟨rfl,rfl⟩;go_wp2_with fail;refine(pC.out _).mono ?_;rintro e w2⟨r,rfl,_,bN⟩;have HX:=hide (fun r=>lj r bN);clear bN;cases r
   ·go_wp2;go_ret;exact HX.out _
   ·go_wp2;go_ret;exact HX.out _
  ·have y4:(x.k==4)=false:=by rw[beq_eq_false_iff_ne];exact vS
   obtain⟨k,a,b,le,re,ca,bo,he,s⟩:=x;simp only at hs y3 y4;clear pK vS;simp only[fU.cs]at*;have z4:(k !=4)=true:=by simp only[bne,y4,Bool.not_false]
   have z6:(k !=6)= !(k==6):=rfl;cases y5:(k==5)<;>cases y6:(k==6)
   all_goals
    rw[y6]at z6;simp only[Bool.not_false,Bool.not_true]at z6;go_enter func36,ntmps36;go_wp2_with fail;refine(HH.out _).mono ?_;rintro e w1⟨rfl,rfl⟩;go_wp2
    all_goals go_ret;exact fG _ _ _ _
theorem Nx(pM:fV)(ao:Option Addr)(b off len cap:Nat)(ops:Nat->fU)(w:World)(P:uO w.heap.size w)(bI:0<len->ao=some ⟨b,off,none⟩)(hS:zD w b off len ops)(hb:0<len->b<w.heap.size)(Am:tot len ops len<=1048576)(fu: ∀i,i<len->Fit (ops i)):Calls prog 19 #[.slice ao len cap, .int .i64 3] w fun e w'=>e= .returned (.int .i64 (-1))∧Below w.heap.size w w':=by
 have hlen:len<=1048576:=by have:=uz len ops len;omega
 go_enter func19,ntmps19;go_wp2;go_loopw [13] (fun i wr=> ∃k:Nat,k<=len∧i= .int .i64 k∧Hid (∃aO hs F',Pre P w.heap.size (cost ops k) aO hs wr F')) (fun i _=>len-(intOf i).toNat)
 case atStart=>exact⟨0,aJ _,rfl,nP P⟩
 case round=>
  obtain⟨k,hk,rfl,HL⟩:=hrel;obtain⟨aO,hs,F',hp⟩:=HL.out;have hB:=hp.old;have cg:=hp.big;have HP:=hide hp;clear hp HL;by_cases ay:k<len
  ·obtain rfl:=bI (by omega);have CW:=fu k ay;have pX:=tJ Am (show k+1<=len from ay);have rS:cost ops (k+1)=cost ops k+(ops k).s.size+1:=rfl;have iA:(ops k).s.size<=1048576:=by omega
   obtain⟨c0,c1,c2,c3,c4,c5,c6,c7,c8⟩:=(hS.below hB (hb (by omega))).cells ay;have SH:Hid (∀w,Calls prog 36 #[.agg (ops k).cs, .int .i64 3] w (pq w)):=fun w=>Fk (ops k) w iA;have iP:Hid (∀w',Below wr.heap.size wr w'->Calls prog 37 #[.pointer (some ⟨w.heap.size,0,none⟩), .agg (ops k).cs] w' (gu P w.heap.size (cost ops k+(ops k).s.size+1))):=fun w' iI=>qy pM P _ _ aO hs (ops k) w' F' (HP.out.below iI) (by omega) CW;generalize ops k=x at*;clear hS bI fu CW;go_wp2_with fail;refine(SH.out _).mono ?_;rintro e w1⟨r,rfl,hb1⟩;have dN:=hb1.size;simp only[World.size_alloc]at dN;have hB1:Below wr.heap.size wr w1:=((ah _ _).alloc (ae _) _).trans (hb1.mono (by simp));cases r
   ·have K9:Hid (∃aO hs F',Pre P w.heap.size (cost ops (k+1)) aO hs w1 F'):=⟨aO,hs,F',(HP.out.below hB1).up (by omega)⟩;go_wp2;go_roundw
    case rel=>exact⟨k+1,by omega,by go_num,K9⟩
    case measure=>simp[intOf];omega
   ·obtain⟨hc,hf⟩:=fA.rK hb1;simp only[World.size_alloc]at hc hf;cases y7:(x.k==7)
    all_goals
     go_wp2_with fail;refine(iP.out _ hB1).mono ?_;rintro e w2⟨rfl,oJ⟩;have GH:Hid (∃aO hs F',Pre P w.heap.size (cost ops (k+1)) aO hs w2 F'):=by rw[rS];exact oJ
     clear oJ;go_wp2;go_roundw
     case rel=>exact⟨k+1,by omega,by go_num,GH⟩
     case measure=>simp[intOf];omega
  ·go_wp2;go_ret;exact⟨rfl,hB⟩
end Lw
namespace fA
open Go.RowKit Go.Deep Go.ChangeShapes Go.WideShapes Go.ChangeAt
theorem Fw(ao:Option Addr)(b off len cap:Nat)(ops:Nat->fU)(w:World)(L:Pj.mr w.heap.size w)(fu: ∀i,i<len->(ops i).fits)(bI:0<len->ao=some ⟨b,off,none⟩)(hS:zD w b off len ops)(hb:0<len->b<w.heap.size)(hlen:len<=1000000000000000)(iK: ∀i,i<len->(ops i).s.size<=1000000000000000):Calls prog 5 #[.slice ao len cap] w fun e w'=>e= .returned (.bool true)∧Below w.heap.size w w':=by
 have HS:Hid (zD w b off len ops):=hS;have HO:Hid (0<len->ao=some ⟨b,off,none⟩):=bI;have HB:Hid (0<len->b<w.heap.size):=hb;have HT:Hid (∀i,i<len->(ops i).s.size<=1000000000000000):=iK;have HL:Hid (Pj.mr w.heap.size w):=L;have Sx:Hid (∀i,i<len->(ops i).fits):=fu;clear hS bI hb iK L fu;go_enter func5,ntmps5;go_wp2_with fail;refine(nT ao b off len cap ops _ HO.out HS.out HB.out hlen HT.out).mono ?_;rintro e w1⟨r,rfl,hr,hb1⟩;cases r
 ·clear hr;go_wp2;go_ret;exact⟨rfl,hb1⟩
 ·have ht:=hr rfl;have HR:Hid (tot len ops len<=1048576):=ht;clear hr ht;go_wp2_with fail;have h3:=hb1.size;refine(Lw.Nx Pj.qs ao b off len cap ops _ (Pj.prj (HL.out.below hb1)) HO.out (fun i hi j hj=>by rw[hb1.cell (p:=⟨b,off+i*9+j,none⟩) (HB.out (by omega))];exact HS.out i hi j hj) (fun h=>bP (HB.out h) h3) HR.out (fun i hi=>yt (Sx.out i hi))).mono ?_;rintro e w2⟨rfl,bN⟩;go_wp2;go_ret;exact⟨rfl,hb1.trans (bN.mono h3)⟩
theorem xc(H:Type)(enc:TypeId×Value->H)(W:World)(base:Nat)(args:Array Value)(ds gs:List (DataW H))(before:List MemPlace)(hval: ∀(j:Nat) t v,f5.params[j]?=some t->args[j]?=some v->Value.okWide prog W .any base t v)(hW:DataW.Whole enc prog f5.params.toList Rows.queuesSpec.vars false W args.toList ds gs before)(cg:(DataW.weightsEach prog (f5.params.toList++(OpenSpec.ofChange Rows.queuesSpec).bare.plain.varTypes prog) (ds++gs)).all (· <=reachBytes)=true)(hL:laidMetH prog Rows.queuesRow.laid W)(oh:W.ShapedOpen prog):Calls prog 5 args W fun e W'=> ∃v,e= .returned v∧Rows.queuesSpec.post enc prog f5 false true false false W args v W':=by
 have BM:=hW;obtain⟨p,q,Kp,hV,rfl,Zj,jJ⟩:=hW;have hA:DataW.TrodAll enc prog W 0 (fun _=>true) true f5.params.toList args.toList ds p:=Kp;rw[params5]at hA hval;obtain⟨v0,vs0,d0,ds0,p0,q0,Kt,rfl,rfl,h0,r0⟩:=trodAll_cons hA;obtain⟨rfl,rfl,rfl⟩:=trodAll_nil r0;obtain rfl:args= #[v0]:=by cases args;simp_all
 obtain⟨rfl,rfl⟩:=trodVars_none hV;obtain⟨a0,Cg,zV,rfl⟩:=okWide_slice underlying22 (hval 0 22 v0 rfl rfl);have xt:=h0;obtain⟨fuel,hf⟩:=h0;obtain⟨ao,b,off,len,cap,ops,hcs,bI,hS,hb,fu,hd⟩:=open_script hf;simp only[Value.cells,List.cons.injEq,Value.slice.injEq,and_true]at hcs;obtain⟨rfl,rfl,rfl⟩:=hcs;have hz:(DataW.weightsEach prog [22] [d0]).all (· <=reachBytes)=true:=cg;obtain⟨hlen,iK⟩:=reach (ops:=ops) hz hd;have ay: ∀x∈p0++ [],x.block<W.heap.size:=fun x hx=>BM.lt x (by simpa using hx);clear Kp;simp only[List.append_nil]at BM ay;refine(Fw a0 b off Cg zV ops W (bJ.Qm hL oh) fu bI hS hb hlen iK).mono fun e W' ⟨he,hg⟩=> ?_;subst he;refine⟨_,rfl, [d0], [],p0, [],p0, [],BM, ?_, ?_,rfl,hg.frame _,fun h=>by cases h⟩
 ·exact trodAll_cons_mk (shut_bool underlying4 _) trodAll_mk0
 ·have:=trodAll_cons_mk (Below.trod laidOut lS nR xt hg ay) trodAll_mk0;rw[List.append_nil]at this;exact this
theorem Az(os:Os)(started:os.Started)(H:Type)(enc:TypeId×Value->H)(F:Stop.Interp):ReturnsInHanded {} checked os 5 .any ((OpenSpec.ofChange Rows.queuesSpec).preRow enc prog f5 Rows.queuesRow.domain false Rows.queuesRow.laid) (((OpenSpec.ofChange Rows.queuesSpec).at F).post enc prog f5 false true false false):=by
 obtain⟨W0,qK⟩: ∃W0,sq os W0:=⟨_,rfl⟩;obtain⟨places,hx⟩:=reads os W0 qK enc;have BQ:=laid_met os W0 qK;refine returnsInHanded_of_row (C:=checked) (s:=OpenSpec.ofChange Rows.queuesSpec) own started (by kernel_rfl) func5
  (witness_row_at (enc:=enc) (C:=checked) false W0 #[.slice none 0 0] (by cases qK;rfl) (by cases qK;kernel_rfl) (by cases qK;kernel_rfl) (by cases qK;kernel_rfl)
   (OpenSpec.preRow_of_cond 8 hx (by kernel_rfl) (fun k hk=>by cases hk) (by kernel_rfl) BQ)) ?_
 intro W base args ds gs before hval hW _ _ cg hL oh _;exact xc H enc W base args ds gs before hval hW cg hL oh
