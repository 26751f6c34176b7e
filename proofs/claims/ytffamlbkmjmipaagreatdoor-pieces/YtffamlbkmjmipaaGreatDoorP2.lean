import Derived.Test.YtffamlbkmjmipaaGreatDoorK7
set_option maxHeartbeats 8000000
set_option maxRecDepth 100000
namespace Go.Proofs.YtffamlbkmjmipaaGreatDoor
open _root_.Go.Proofs.Tryz
namespace Kp
open Go.RowKit aD Mc Mr Lw bA
attribute [local go_sem] aP.ae aP.ah
variable{w:World}{e:Nat}
noncomputable def pieOps (id:Nat):Array Oper:=match f14.body with|some c=>(nK id c).getD #[]|none=> #[]
theorem q_fine:N0.fine=true:=by decide+kernel
theorem q_st:rR (St.init N0) UL 1=PF:=rfl
theorem q_good:Mc.Good 1 PF:=by have:=pq UL (St.init N0) UN (Mc.Good.start q_fine) 1 (af _);rw[q_st]at this;exact this
theorem q_out:PF.out= []:=rfl
def FedQ(P:iC w.heap.size w)(ww:Nat)(S:ByteArray)(j m:Nat)(st:St)(outs:List (Int×Bs))(av:Value)(R:aD)(v9:Value)(w9:World):Prop:= ∃G9 VI,(dT av outs).holds w9 G9∧(dT v9 (st.feed 1 ((S.data.toList.drop j).take m)).out).holds w9 VI∧
 ∀ao cp Hl,Goes (rowA 51 2 (.slice ao (outs.length+(st.feed 1 ((S.data.toList.drop j).take m)).out.length) cp) (outs.length+(st.feed 1 ((S.data.toList.drop j).take m)).out.length) (flat o8 outs++flat o8 (st.feed 1 ((S.data.toList.drop j).take m)).out)) w9 G9 Hl->
  Goes (aa (dT (.slice ao (outs++(st.feed 1 ((S.data.toList.drop j).take m)).out).length cp) (outs++(st.feed 1 ((S.data.toList.drop j).take m)).out)) (aa (keepA P ww (st.feed 1 ((S.data.toList.drop j).take m)).told) R)) w (fun _=>False) Hl
def AppQ(P:iC w.heap.size w)(ww:Nat)(S:ByteArray)(j m:Nat)(st:St)(outs:List (Int×Bs))(R:aD)(ua:Value)(w1:World):Prop:= ∃ao cp,ua= .slice ao (outs++(st.feed 1 ((S.data.toList.drop j).take m)).out).length cp∧Goes (aa (dT (.slice ao (outs++(st.feed 1 ((S.data.toList.drop j).take m)).out).length cp) (outs++(st.feed 1 ((S.data.toList.drop j).take m)).out)) (aa (keepA P ww (st.feed 1 ((S.data.toList.drop j).take m)).told) R)) w (fun _=>False) w1
theorem pie_out{S:ByteArray}{j:Nat}{st:St}{outs:List (Int×Bs)}(h:SF S.data.toList j e st outs)(m:Nat)(he:e<=1)(hS:S.size<=4106)(hj:j+m<=S.size)(hm6:m<=6):(st.feed 1 ((S.data.toList.drop j).take m)).out.length<=200000:=by
 have hl:((S.data.toList.drop j).take m).length<=m:=by rw[List.length_take];omega
 have hg:Mc.Good (1+3*j+e+(if m=0 then 1 else m)) (st.feed 1 ((S.data.toList.drop j).take m)):=by refine h.good.feed 1 _ (by split<;>omega) ?_;have:=vN _ m hl;split<;>omega
 have:=hg.sz;unfold St.sz at this;have h2:(if m=0 then 1 else m)<=6:=by split<;>omega
 omega
theorem pie26_size:(pieOps 26).size=14:=by kernel_rfl
structure pie26F{w:World}(P:iC w.heap.size w)(ww x1:Nat)(S:ByteArray)(j m:Nat)(st:St)(outs:List (Int×Bs))(av:Value)(R:aD)(wr:World)(b0 b1 b2 b3 b4 b5 b6 b7 b8 b9 b10 b11 b12 b13:Bool)(u111 u112 u113 u114 u115 u116 u117 u118 u119 u120 u121 u122 u123 u15:Value)(w1:World):Prop where
 f0:b0=true->u111=av
 f1:b1=true->u112= .pointer (some ⟨ww,0,none⟩)
 f2:b2=true->u113= .pointer (some ⟨ww,0,none⟩)
 f3:b3=true->u114= .pointer (some ⟨ww,0,none⟩)
 f4:b4=true->u115= .pointer (some ⟨x1,0,none⟩)
 f5:b5=true->u116= .string S
 f6:b6=true->u117= .int .i64 (j:Int)
 f7:b7=true->u118= .int .i64 (j:Int)
 f8:b8=true->u119= .int .i64 (m:Int)
 f9:b9=true->u120= .int .i64 ((j:Int)+(m:Int))
 f10:b10=true->u121= .string (S.extract j (j+m))
 fa:b13=true->u15=u123
 old:b13=false->u15=av
 w0:b11=false->w1=wr.drew
 w9:b11=true->b12=false->FedQ P ww S j m st outs av R u122 w1
 Hl:b12=true->AppQ P ww S j m st outs R u123 w1
 ia:b12=true->b11=true
 ib:b11=true->b4=true
 ic:b13=true->b0=true
 ix:b13=true->b12=true
theorem pie26(P:iC w.heap.size w)(ww:Nat)(S:ByteArray)(j m:Nat)(st:St)(outs:List (Int×Bs))(av:Value)(R:aD)(v0 v1 v2 v3 v4 v5 v6 v7 v9 v11 v12 v13 v14 v18 v19 v20 v21 v22 v23 v24 v25 v26 v27 v28 v29 v30 v31 v32 v33 v34 v35 v36 v37 v38 v39 v40 v41 v42 v43 v44 v45 v46 v47 v48 v49 v50 v51 v52 v53 v54 v55 v56 v57 v58 v59 v60 v61 v62 v63 v64 v65 v66 v67 v68 v69 v70 v71 v72 v73 v74 v75 v76 v77 v78 v79 v80 v81 v82 v83 v84 v85 v86 v87 v88 v89 v90 v91 v92 v93 v94 v95 v96 v97 v98 v99 v100 v101 v102 v103 v104 v105 v106 v107 v108 v109 v110 v124 v125 v126 v127 v128 v129 v130 v131 v132 v133 v134 v135 v136 v137 v138 v139 v140 v141 v142 v143 v144 v145 v146 v147 v148 v149 v150 v151 v152 v153 v154 v155 v156 v157 v158 v159 v160 v161 v162 v163 v164 v165 v166 v167 v168 v169 v170 v171 v172 v173 y111 y112 y113 y114 y115 y116 y117 y118 y119 y120 y121 y122 y123:Value)(wr:World)(Q:Exit->Act->World->Prop)(h:SF S.data.toList j e st outs)(he:e<=1)(hS:S.size<=4106)(hj:j+m<=S.size)(hm6:m<=6)(bz:Goes (aa (dT av outs) (aa (keepA P ww st) R)) w (fun _=>False) wr)(hQ: ∀(u111 u112 u113 u114 u115 u116 u117 u118 u119 u120 u121 u122 u123:Value) (ao:Option Addr) (cp:Nat) (w1:World),Goes (aa (dT (.slice ao (outs++(st.feed 1 ((S.data.toList.drop j).take m)).out).length cp) (outs++(st.feed 1 ((S.data.toList.drop j).take m)).out)) (aa (keepA P ww (st.feed 1 ((S.data.toList.drop j).take m)).told) R)) w (fun _=>False) w1->Q .normal ⟨#[v0,v1,v2,v3,v4,v5,v6,v7, .pointer (some ⟨ww,0,none⟩),v9, .string S,v11,v12,v13,v14,(.slice ao (outs++(st.feed 1 ((S.data.toList.drop j).take m)).out).length cp), .int .i64 (j:Int), .int .i64 (m:Int),v18,v19,v20,v21,v22,v23,v24,v25,v26,v27,v28,v29,v30,v31,v32,v33,v34,v35,v36,v37,v38,v39,v40,v41,v42,v43,v44,v45,v46,v47,v48,v49,v50,v51,v52,v53,v54,v55,v56,v57,v58,v59,v60,v61,v62,v63,v64,v65,v66,v67,v68,v69,v70,v71,v72,v73,v74,v75,v76,v77,v78,v79,v80,v81,v82,v83,v84,v85,v86,v87,v88,v89,v90,v91,v92,v93,v94,v95,v96,v97,v98,v99,v100,v101,v102,v103,v104,v105,v106,v107,v108,v109,v110,u111,u112,u113,u114,u115,u116,u117,u118,u119,u120,u121,u122,u123,v124,v125,v126,v127,v128,v129,v130,v131,v132,v133,v134,v135,v136,v137,v138,v139,v140,v141,v142,v143,v144,v145,v146,v147,v148,v149,v150,v151,v152,v153,v154,v155,v156,v157,v158,v159,v160,v161,v162,v163,v164,v165,v166,v167,v168,v169,v170,v171,v172,v173], []⟩ w1):(Code.region 26 (pieOps 26) true).wp prog Q ⟨#[v0,v1,v2,v3,v4,v5,v6,v7, .pointer (some ⟨ww,0,none⟩),v9, .string S,v11,v12,v13,v14,av, .int .i64 (j:Int), .int .i64 (m:Int),v18,v19,v20,v21,v22,v23,v24,v25,v26,v27,v28,v29,v30,v31,v32,v33,v34,v35,v36,v37,v38,v39,v40,v41,v42,v43,v44,v45,v46,v47,v48,v49,v50,v51,v52,v53,v54,v55,v56,v57,v58,v59,v60,v61,v62,v63,v64,v65,v66,v67,v68,v69,v70,v71,v72,v73,v74,v75,v76,v77,v78,v79,v80,v81,v82,v83,v84,v85,v86,v87,v88,v89,v90,v91,v92,v93,v94,v95,v96,v97,v98,v99,v100,v101,v102,v103,v104,v105,v106,v107,v108,v109,v110,y111,y112,y113,y114,y115,y116,y117,y118,y119,y120,y121,y122,y123,v124,v125,v126,v127,v128,v129,v130,v131,v132,v133,v134,v135,v136,v137,v138,v139,v140,v141,v142,v143,v144,v145,v146,v147,v148,v149,v150,v151,v152,v153,v154,v155,v156,v157,v158,v159,v160,v161,v162,v163,v164,v165,v166,v167,v168,v169,v170,v171,v172,v173], []⟩ wr:=by
 obtain⟨x1,cx1,TF⟩:=CT P ww S (m:=m) h he hS hj R (af _) (ar _ _) jy bz;have PR:=hide TF;obtain⟨i0,kg,nV,j0,kC⟩:=info_parts JY;have D7:=h.len;have HNL:Hid (outs.length<=5000000000∧(st.feed 1 ((S.data.toList.drop j).take m)).out.length<=200000):=⟨by omega,pie_out h m he hS hj hm6⟩;have ba1:(j:Int)<=(j:Int)+(m:Int):=by omega
 have bb1:(j:Int)+(m:Int)<=(S.size:Int):=by omega
 have bc1:((j:Int)+(m:Int)).toNat=j+m:=by omega
 have bd1:(0:Int)<=(j:Int)+(m:Int):=by omega
 have be1:IntKind.i64.wrap ((j:Int)+(m:Int))=(j:Int)+(m:Int):=by rw[IntKind.wrap_i64];omega
 clear TF D7 h bz;refine wp_region_any (by kernel_rfl) ?_;change wpAny _ _ _ _ _ _ _ (World.drew _);refine wT (fun l a w1=> ∃(b0 b1 b2 b3 b4 b5 b6 b7 b8 b9 b10 b11 b12 b13:Bool) (u111 u112 u113 u114 u115 u116 u117 u118 u119 u120 u121 u122 u123 u15:Value),l= #[b0,b1,b2,b3,b4,b5,b6,b7,b8,b9,b10,b11,b12,b13]∧a=⟨#[v0,v1,v2,v3,v4,v5,v6,v7, .pointer (some ⟨ww,0,none⟩),v9, .string S,v11,v12,v13,v14,u15, .int .i64 (j:Int), .int .i64 (m:Int),v18,v19,v20,v21,v22,v23,v24,v25,v26,v27,v28,v29,v30,v31,v32,v33,v34,v35,v36,v37,v38,v39,v40,v41,v42,v43,v44,v45,v46,v47,v48,v49,v50,v51,v52,v53,v54,v55,v56,v57,v58,v59,v60,v61,v62,v63,v64,v65,v66,v67,v68,v69,v70,v71,v72,v73,v74,v75,v76,v77,v78,v79,v80,v81,v82,v83,v84,v85,v86,v87,v88,v89,v90,v91,v92,v93,v94,v95,v96,v97,v98,v99,v100,v101,v102,v103,v104,v105,v106,v107,v108,v109,v110,u111,u112,u113,u114,u115,u116,u117,u118,u119,u120,u121,u122,u123,v124,v125,v126,v127,v128,v129,v130,v131,v132,v133,v134,v135,v136,v137,v138,v139,v140,v141,v142,v143,v144,v145,v146,v147,v148,v149,v150,v151,v152,v153,v154,v155,v156,v157,v158,v159,v160,v161,v162,v163,v164,v165,v166,v167,v168,v169,v170,v171,v172,v173], []⟩∧pie26F P ww x1 S j m st outs av R wr b0 b1 b2 b3 b4 b5 b6 b7 b8 b9 b10 b11 b12 b13 u111 u112 u113 u114 u115 u116 u117 u118 u119 u120 u121 u122 u123 u15 w1) ?_ ?_ _ _ _ _ ?_ ?_;rotate_left
 ·rintro l a w1⟨b0,b1,b2,b3,b4,b5,b6,b7,b8,b9,b10,b11,b12,b13,u111,u112,u113,u114,u115,u116,u117,u118,u119,u120,u121,u122,u123,u15,rfl,rfl,h⟩ hr;have e0:b0=true:=by
   cases b0 with
   |true=>rfl
   |false=>exact absurd (N5 (i:=0) (ops:=pieOps 26) (by rw[pie26_size];omega) (by kernel_rfl)) (by rw[hr];simp)
  subst e0;have e1:b1=true:=by
   cases b1 with
   |true=>rfl
   |false=>exact absurd (N5 (i:=1) (ops:=pieOps 26) (by rw[pie26_size];omega) (by kernel_rfl)) (by rw[hr];simp)
  subst e1;have e2:b2=true:=by
   cases b2 with
   |true=>rfl
   |false=>exact absurd (N5 (i:=2) (ops:=pieOps 26) (by rw[pie26_size];omega) (by kernel_rfl)) (by rw[hr];simp)
  subst e2;have e3:b3=true:=by
   cases b3 with
   |true=>rfl
   |false=>exact absurd (N5 (i:=3) (ops:=pieOps 26) (by rw[pie26_size];omega) (by kernel_rfl)) (by rw[hr];simp)
  subst e3;have e4:b4=true:=by
   cases b4 with
   |true=>rfl
   |false=>exact absurd (N5 (i:=4) (ops:=pieOps 26) (by rw[pie26_size];omega) (by kernel_rfl)) (by rw[hr];simp)
  subst e4;have e5:b5=true:=by
   cases b5 with
   |true=>rfl
   |false=>exact absurd (N5 (i:=5) (ops:=pieOps 26) (by rw[pie26_size];omega) (by kernel_rfl)) (by rw[hr];simp)
  subst e5;have e6:b6=true:=by
   cases b6 with
   |true=>rfl
   |false=>exact absurd (N5 (i:=6) (ops:=pieOps 26) (by rw[pie26_size];omega) (by kernel_rfl)) (by rw[hr];simp)
  subst e6;have e7:b7=true:=by
   cases b7 with
   |true=>rfl
   |false=>exact absurd (N5 (i:=7) (ops:=pieOps 26) (by rw[pie26_size];omega) (by kernel_rfl)) (by rw[hr];simp)
  subst e7;have e8:b8=true:=by
   cases b8 with
   |true=>rfl
   |false=>exact absurd (N5 (i:=8) (ops:=pieOps 26) (by rw[pie26_size];omega) (by kernel_rfl)) (by rw[hr];simp)
  subst e8;have e9:b9=true:=by
   cases b9 with
   |true=>rfl
   |false=>exact absurd (N5 (i:=9) (ops:=pieOps 26) (by rw[pie26_size];omega) (by kernel_rfl)) (by rw[hr];simp)
  subst e9;have e10:b10=true:=by
   cases b10 with
   |true=>rfl
   |false=>exact absurd (N5 (i:=10) (ops:=pieOps 26) (by rw[pie26_size];omega) (by kernel_rfl)) (by rw[hr];simp)
  subst e10;have e11:b11=true:=by
   cases b11 with
   |true=>rfl
   |false=>exact absurd (N5 (i:=11) (ops:=pieOps 26) (by rw[pie26_size];omega) (by kernel_rfl)) (by rw[hr];simp)
  subst e11;have e12:b12=true:=by
   cases b12 with
   |true=>rfl
   |false=>exact absurd (N5 (i:=12) (ops:=pieOps 26) (by rw[pie26_size];omega) (by kernel_rfl)) (by rw[hr];simp)
  subst e12;have e13:b13=true:=by
   cases b13 with
   |true=>rfl
   |false=>exact absurd (N5 (i:=13) (ops:=pieOps 26) (by rw[pie26_size];omega) (by kernel_rfl)) (by rw[hr];simp)
  subst e13;have hu:=h.fa rfl;obtain⟨ao,cp,hua,hg⟩:=h.Hl rfl;rw[hua]at hu;subst hu;exact hQ _ _ _ _ _ _ _ _ _ _ _ _ _ ao cp w1 hg
 ·exact⟨false,false,false,false,false,false,false,false,false,false,false,false,false,false,_,_,_,_,_,_,_,_,_,_,_,_,_,_,by kernel_rfl,rfl,⟨nofun,nofun,nofun,nofun,nofun,nofun,nofun,nofun,nofun,nofun,nofun,nofun,fun _=>rfl,fun _=>rfl,nofun,nofun,nofun,nofun,nofun,nofun⟩⟩
 ·exact au Array.countP_le_size (by simp)
 ·rintro i l a w1⟨b0,b1,b2,b3,b4,b5,b6,b7,b8,b9,b10,b11,b12,b13,u111,u112,u113,u114,u115,u116,u117,u118,u119,u120,u121,u122,u123,u15,rfl,rfl,h⟩ hi K hK;have aQ:=(xQ hi).1;rw[pie26_size]at aQ;have YM:=hide hK;clear hK hQ;obtain rfl|rfl|rfl|rfl|rfl|rfl|rfl|rfl|rfl|rfl|rfl|rfl|rfl|rfl:i=0∨i=1∨i=2∨i=3∨i=4∨i=5∨i=6∨i=7∨i=8∨i=9∨i=10∨i=11∨i=12∨i=13:=by omega
  ·cases b0 with
   |true=>exact NS hi (by kernel_rfl)
   |false=>
   clear hi aQ;cases b13 with
   |true=>exact absurd (h.ic rfl) (by decide)
   |false=>
   have hz:=(h.old rfl).symm;subst hz;simp only[pieOps,f14,nK,Nat.reduceEqDiff,reduceIte,Option.getD_some];refine OS (by rfl) rfl ?_;have HH:=hide h;clear h;go_wp2;exact YM.out _ _ ⟨true,b1,b2,b3,b4,b5,b6,b7,b8,b9,b10,b11,b12,false,_,_,_,_,_,_,_,_,_,_,_,_,_,_,by kernel_rfl,rfl,⟨fun _=>rfl,HH.out.f1,HH.out.f2,HH.out.f3,HH.out.f4,HH.out.f5,HH.out.f6,HH.out.f7,HH.out.f8,HH.out.f9,HH.out.f10,HH.out.fa,HH.out.old,HH.out.w0,HH.out.w9,HH.out.Hl,HH.out.ia,HH.out.ib,fun _=>rfl,HH.out.ix⟩⟩
  ·cases b1 with
   |true=>exact NS hi (by kernel_rfl)
   |false=>
   clear hi aQ;simp only[pieOps,f14,nK,Nat.reduceEqDiff,reduceIte,Option.getD_some];refine OS (by rfl) rfl ?_;have HH:=hide h;clear h;go_wp2;exact YM.out _ _ ⟨b0,true,b2,b3,b4,b5,b6,b7,b8,b9,b10,b11,b12,b13,_,_,_,_,_,_,_,_,_,_,_,_,_,_,by kernel_rfl,rfl,⟨HH.out.f0,fun _=>rfl,HH.out.f2,HH.out.f3,HH.out.f4,HH.out.f5,HH.out.f6,HH.out.f7,HH.out.f8,HH.out.f9,HH.out.f10,HH.out.fa,HH.out.old,HH.out.w0,HH.out.w9,HH.out.Hl,HH.out.ia,HH.out.ib,HH.out.ic,HH.out.ix⟩⟩
  ·cases b2 with
   |true=>exact NS hi (by kernel_rfl)
   |false=>
   cases b1 with
   |false=>exact NS hi (by kernel_rfl)
   |true=>
   clear hi aQ;have hu1:=h.f1 rfl;subst hu1;simp only[pieOps,f14,nK,Nat.reduceEqDiff,reduceIte,Option.getD_some];refine OS (by rfl) rfl ?_;have HH:=hide h;clear h;go_wp2;exact YM.out _ _ ⟨b0,true,true,b3,b4,b5,b6,b7,b8,b9,b10,b11,b12,b13,_,_,_,_,_,_,_,_,_,_,_,_,_,_,by kernel_rfl,rfl,⟨HH.out.f0,HH.out.f1,fun _=>rfl,HH.out.f3,HH.out.f4,HH.out.f5,HH.out.f6,HH.out.f7,HH.out.f8,HH.out.f9,HH.out.f10,HH.out.fa,HH.out.old,HH.out.w0,HH.out.w9,HH.out.Hl,HH.out.ia,HH.out.ib,HH.out.ic,HH.out.ix⟩⟩
  ·cases b3 with
   |true=>exact NS hi (by kernel_rfl)
   |false=>
   cases b2 with
   |false=>exact NS hi (by kernel_rfl)
   |true=>
   clear hi aQ;have hu2:=h.f2 rfl;subst hu2;simp only[pieOps,f14,nK,Nat.reduceEqDiff,reduceIte,Option.getD_some];refine OS (by rfl) rfl ?_;have HH:=hide h;clear h;go_wp2;exact YM.out _ _ ⟨b0,b1,true,true,b4,b5,b6,b7,b8,b9,b10,b11,b12,b13,_,_,_,_,_,_,_,_,_,_,_,_,_,_,by kernel_rfl,rfl,⟨HH.out.f0,HH.out.f1,HH.out.f2,fun _=>rfl,HH.out.f4,HH.out.f5,HH.out.f6,HH.out.f7,HH.out.f8,HH.out.f9,HH.out.f10,HH.out.fa,HH.out.old,HH.out.w0,HH.out.w9,HH.out.Hl,HH.out.ia,HH.out.ib,HH.out.ic,HH.out.ix⟩⟩
  ·cases b4 with
   |true=>exact NS hi (by kernel_rfl)
   |false=>
   cases b3 with
   |false=>exact NS hi (by kernel_rfl)
   |true=>
   clear hi aQ;cases b11 with
   |true=>exact absurd (h.ib rfl) (by decide)
   |false=>
   have hz:=h.w0 rfl;subst hz;have hu3:=h.f3 rfl;subst hu3;simp only[pieOps,f14,nK,Nat.reduceEqDiff,reduceIte,Option.getD_some];refine OS (by rfl) rfl ?_;have HH:=hide h;clear h;go_wp2;exact YM.out _ _ ⟨b0,b1,b2,true,true,b5,b6,b7,b8,b9,b10,false,b12,b13,_,_,_,_,_,_,_,_,_,_,_,_,_,_,by kernel_rfl,rfl,⟨HH.out.f0,HH.out.f1,HH.out.f2,HH.out.f3,fun _=>rfl,HH.out.f5,HH.out.f6,HH.out.f7,HH.out.f8,HH.out.f9,HH.out.f10,HH.out.fa,HH.out.old,HH.out.w0,HH.out.w9,HH.out.Hl,HH.out.ia,fun _=>rfl,HH.out.ic,HH.out.ix⟩⟩
  ·cases b5 with
   |true=>exact NS hi (by kernel_rfl)
   |false=>
   clear hi aQ;simp only[pieOps,f14,nK,Nat.reduceEqDiff,reduceIte,Option.getD_some];refine OS (by rfl) rfl ?_;have HH:=hide h;clear h;go_wp2;exact YM.out _ _ ⟨b0,b1,b2,b3,b4,true,b6,b7,b8,b9,b10,b11,b12,b13,_,_,_,_,_,_,_,_,_,_,_,_,_,_,by kernel_rfl,rfl,⟨HH.out.f0,HH.out.f1,HH.out.f2,HH.out.f3,HH.out.f4,fun _=>rfl,HH.out.f6,HH.out.f7,HH.out.f8,HH.out.f9,HH.out.f10,HH.out.fa,HH.out.old,HH.out.w0,HH.out.w9,HH.out.Hl,HH.out.ia,HH.out.ib,HH.out.ic,HH.out.ix⟩⟩
  ·cases b6 with
   |true=>exact NS hi (by kernel_rfl)
   |false=>
   clear hi aQ;simp only[pieOps,f14,nK,Nat.reduceEqDiff,reduceIte,Option.getD_some];refine OS (by rfl) rfl ?_;have HH:=hide h;clear h;go_wp2;exact YM.out _ _ ⟨b0,b1,b2,b3,b4,b5,true,b7,b8,b9,b10,b11,b12,b13,_,_,_,_,_,_,_,_,_,_,_,_,_,_,by kernel_rfl,rfl,⟨HH.out.f0,HH.out.f1,HH.out.f2,HH.out.f3,HH.out.f4,HH.out.f5,fun _=>rfl,HH.out.f7,HH.out.f8,HH.out.f9,HH.out.f10,HH.out.fa,HH.out.old,HH.out.w0,HH.out.w9,HH.out.Hl,HH.out.ia,HH.out.ib,HH.out.ic,HH.out.ix⟩⟩
  ·cases b7 with
   |true=>exact NS hi (by kernel_rfl)
   |false=>
   clear hi aQ;simp only[pieOps,f14,nK,Nat.reduceEqDiff,reduceIte,Option.getD_some];refine OS (by rfl) rfl ?_;have HH:=hide h;clear h;go_wp2;exact YM.out _ _ ⟨b0,b1,b2,b3,b4,b5,b6,true,b8,b9,b10,b11,b12,b13,_,_,_,_,_,_,_,_,_,_,_,_,_,_,by kernel_rfl,rfl,⟨HH.out.f0,HH.out.f1,HH.out.f2,HH.out.f3,HH.out.f4,HH.out.f5,HH.out.f6,fun _=>rfl,HH.out.f8,HH.out.f9,HH.out.f10,HH.out.fa,HH.out.old,HH.out.w0,HH.out.w9,HH.out.Hl,HH.out.ia,HH.out.ib,HH.out.ic,HH.out.ix⟩⟩
  ·cases b8 with
   |true=>exact NS hi (by kernel_rfl)
   |false=>
   clear hi aQ;simp only[pieOps,f14,nK,Nat.reduceEqDiff,reduceIte,Option.getD_some];refine OS (by rfl) rfl ?_;have HH:=hide h;clear h;go_wp2;exact YM.out _ _ ⟨b0,b1,b2,b3,b4,b5,b6,b7,true,b9,b10,b11,b12,b13,_,_,_,_,_,_,_,_,_,_,_,_,_,_,by kernel_rfl,rfl,⟨HH.out.f0,HH.out.f1,HH.out.f2,HH.out.f3,HH.out.f4,HH.out.f5,HH.out.f6,HH.out.f7,fun _=>rfl,HH.out.f9,HH.out.f10,HH.out.fa,HH.out.old,HH.out.w0,HH.out.w9,HH.out.Hl,HH.out.ia,HH.out.ib,HH.out.ic,HH.out.ix⟩⟩
  ·cases b9 with
   |true=>exact NS hi (by kernel_rfl)
   |false=>
   cases b7 with
   |false=>exact NS hi (by kernel_rfl)
   |true=>
   cases b8 with
   |false=>exact NS hi (by kernel_rfl)
   |true=>
   clear hi aQ;have hu7:=h.f7 rfl;have hu8:=h.f8 rfl;subst hu7;subst hu8;simp only[pieOps,f14,nK,Nat.reduceEqDiff,reduceIte,Option.getD_some];refine OS (by rfl) rfl ?_;have HH:=hide h;clear h;go_wp2;exact YM.out _ _ ⟨b0,b1,b2,b3,b4,b5,b6,true,true,true,b10,b11,b12,b13,_,_,_,_,_,_,_,_,_,_,_,_,_,_,by kernel_rfl,rfl,⟨HH.out.f0,HH.out.f1,HH.out.f2,HH.out.f3,HH.out.f4,HH.out.f5,HH.out.f6,HH.out.f7,HH.out.f8,fun _=>rfl,HH.out.f10,HH.out.fa,HH.out.old,HH.out.w0,HH.out.w9,HH.out.Hl,HH.out.ia,HH.out.ib,HH.out.ic,HH.out.ix⟩⟩
  ·cases b10 with
   |true=>exact NS hi (by kernel_rfl)
   |false=>
   cases b5 with
   |false=>exact NS hi (by kernel_rfl)
   |true=>
   cases b6 with
   |false=>exact NS hi (by kernel_rfl)
   |true=>
   cases b9 with
   |false=>exact NS hi (by kernel_rfl)
   |true=>
   clear hi aQ;have hu5:=h.f5 rfl;have hu6:=h.f6 rfl;have hu9:=h.f9 rfl;subst hu5;subst hu6;subst hu9;simp only[pieOps,f14,nK,Nat.reduceEqDiff,reduceIte,Option.getD_some];refine OS (by rfl) rfl ?_;have HH:=hide h;clear h;go_wp2;exact YM.out _ _ ⟨b0,b1,b2,b3,b4,true,true,b7,b8,true,true,b11,b12,b13,_,_,_,_,_,_,_,_,_,_,_,_,_,_,by kernel_rfl,rfl,⟨HH.out.f0,HH.out.f1,HH.out.f2,HH.out.f3,HH.out.f4,HH.out.f5,HH.out.f6,HH.out.f7,HH.out.f8,HH.out.f9,fun _=>rfl,HH.out.fa,HH.out.old,HH.out.w0,HH.out.w9,HH.out.Hl,HH.out.ia,HH.out.ib,HH.out.ic,HH.out.ix⟩⟩
  ·cases b11 with
   |true=>exact NS hi (by kernel_rfl)
   |false=>
   cases b4 with
   |false=>exact NS hi (by kernel_rfl)
   |true=>
   cases b10 with
   |false=>exact NS hi (by kernel_rfl)
   |true=>
   clear hi aQ;cases b12 with
   |true=>exact absurd (h.ia rfl) (by decide)
   |false=>
   have hz:=h.w0 rfl;subst hz;have hu4:=h.f4 rfl;have hu10:=h.f10 rfl;subst hu4;subst hu10;simp only[pieOps,f14,nK,Nat.reduceEqDiff,reduceIte,Option.getD_some];refine OS (by rfl) rfl ?_;have HH:=hide h;clear h;go_wp2_with fail;refine PR.out.mono ?_;rintro e w9⟨v9,rfl,_,G9,VI,Zy,_,_,WJ,hfin⟩;have HQ9:Hid (FedQ P ww S j m st outs av R v9 w9):=⟨G9,VI,Zy,WJ,hfin⟩;clear Zy WJ hfin PR;go_wp2;exact YM.out _ _ ⟨b0,b1,b2,b3,true,b5,b6,b7,b8,b9,true,true,false,b13,_,_,_,_,_,_,_,_,_,_,_,_,_,_,by kernel_rfl,rfl,⟨HH.out.f0,HH.out.f1,HH.out.f2,HH.out.f3,HH.out.f4,HH.out.f5,HH.out.f6,HH.out.f7,HH.out.f8,HH.out.f9,HH.out.f10,HH.out.fa,HH.out.old,nofun,fun _ _=>HQ9.out,nofun,nofun,fun _=>rfl,HH.out.ic,HH.out.ix⟩⟩
  ·cases b12 with
   |true=>exact NS hi (by kernel_rfl)
   |false=>
   cases b0 with
   |false=>exact NS hi (by kernel_rfl)
   |true=>
   cases b11 with
   |false=>exact NS hi (by kernel_rfl)
   |true=>
   clear hi aQ;cases b13 with
   |true=>exact absurd (h.ix rfl) (by decide)
   |false=>
   obtain⟨G9,VI,Zy,WJ,hfin⟩:=h.w9 rfl rfl;have hu0:=(h.f0 rfl).symm;subst hu0;simp only[pieOps,f14,nK,Nat.reduceEqDiff,reduceIte,Option.getD_some];refine OS (by rfl) rfl ?_;have HH:=hide h;clear h;refine uF w1 _ _ _ (by rfl) 51 i0 _ 2 24 underlying32 kg nV j0 kC rfl (by omega) (F:=G9) (G:=VI) av outs.length (flat o8 outs) (by rfl) Zy u122 _ (flat o8 (st.feed 1 ((S.data.toList.drop j).take m)).out) (by rfl) WJ (CQ _) (by have:=HNL.out;unfold maxLen;omega) (by have:=HNL.out;omega) ?_;intro ao cp Hl TP;exact YM.out _ _ ⟨true,b1,b2,b3,b4,b5,b6,b7,b8,b9,b10,true,true,false,_,_,_,_,_,_,_,_,_,_,_,_,_,_,by kernel_rfl,rfl,⟨HH.out.f0,HH.out.f1,HH.out.f2,HH.out.f3,HH.out.f4,HH.out.f5,HH.out.f6,HH.out.f7,HH.out.f8,HH.out.f9,HH.out.f10,nofun,HH.out.old,nofun,(fun _ h=>nomatch h),fun _=>⟨ao,cp,by rw[aC],hfin ao cp Hl TP⟩,fun _=>rfl,HH.out.ib,HH.out.ic,fun _=>rfl⟩⟩
  ·cases b13 with
   |true=>exact NS hi (by kernel_rfl)
   |false=>
   cases b12 with
   |false=>exact NS hi (by kernel_rfl)
   |true=>
   cases b0 with
   |false=>exact NS hi (by kernel_rfl)
   |true=>
   cases b1 with
   |false=>exact NS hi (by kernel_rfl)
   |true=>
   cases b2 with
   |false=>exact NS hi (by kernel_rfl)
   |true=>
   cases b3 with
   |false=>exact NS hi (by kernel_rfl)
   |true=>
   cases b4 with
   |false=>exact NS hi (by kernel_rfl)
   |true=>
   cases b5 with
   |false=>exact NS hi (by kernel_rfl)
   |true=>
   cases b6 with
   |false=>exact NS hi (by kernel_rfl)
   |true=>
   cases b7 with
   |false=>exact NS hi (by kernel_rfl)
   |true=>
   cases b8 with
   |false=>exact NS hi (by kernel_rfl)
   |true=>
   cases b9 with
   |false=>exact NS hi (by kernel_rfl)
   |true=>
   cases b10 with
   |false=>exact NS hi (by kernel_rfl)
   |true=>
   cases b11 with
   |false=>exact NS hi (by kernel_rfl)
   |true=>
   clear hi aQ;simp only[pieOps,f14,nK,Nat.reduceEqDiff,reduceIte,Option.getD_some];refine OS (by rfl) rfl ?_;have HH:=hide h;clear h;go_wp2;exact YM.out _ _ ⟨true,true,true,true,true,true,true,true,true,true,true,true,true,true,_,_,_,_,_,_,_,_,_,_,_,_,_,_,by kernel_rfl,rfl,⟨HH.out.f0,HH.out.f1,HH.out.f2,HH.out.f3,HH.out.f4,HH.out.f5,HH.out.f6,HH.out.f7,HH.out.f8,HH.out.f9,HH.out.f10,fun _=>rfl,nofun,HH.out.w0,HH.out.w9,HH.out.Hl,HH.out.ia,HH.out.ib,fun _=>rfl,fun _=>rfl⟩⟩
theorem pie29_size:(pieOps 29).size=13:=by kernel_rfl
structure pie29F{w:World}(P:iC w.heap.size w)(ww x1:Nat)(S:ByteArray)(j m:Nat)(st:St)(outs:List (Int×Bs))(av:Value)(R:aD)(wr:World)(b0 b1 b2 b3 b4 b5 b6 b7 b8 b9 b10 b11 b12:Bool)(u126 u127 u128 u129 u130 u131 u132 u133 u134 u135 u136 u137 u15:Value)(w1:World):Prop where
 f0:b0=true->u126=av
 f1:b1=true->u127= .pointer (some ⟨ww,0,none⟩)
 f2:b2=true->u128= .pointer (some ⟨ww,0,none⟩)
 f3:b3=true->u129= .pointer (some ⟨ww,0,none⟩)
 f4:b4=true->u130= .pointer (some ⟨x1,0,none⟩)
 f5:b5=true->u131= .string S
 f6:b6=true->u132= .int .i64 (j:Int)
 f7:b7=true->u133= .int .i64 (j:Int)
 f8:b8=true->u134= .int .i64 ((j:Int)+1)
 f9:b9=true->u135= .string (S.extract j (j+1))
 fa:b12=true->u15=u137
 old:b12=false->u15=av
 w0:b10=false->w1=wr.drew
 w9:b10=true->b11=false->FedQ P ww S j m st outs av R u136 w1
 Hl:b11=true->AppQ P ww S j m st outs R u137 w1
 ia:b11=true->b10=true
 ib:b10=true->b4=true
 ic:b12=true->b0=true
 ix:b12=true->b11=true
theorem pie29{w:World}(P:iC w.heap.size w)(ww:Nat)(S:ByteArray)(j:Nat)(st:St)(outs:List (Int×Bs))(av:Value)(R:aD)(v0 v1 v2 v3 v4 v5 v6 v7 v9 v11 v12 v13 v14 v17 v18 v19 v20 v21 v22 v23 v24 v25 v26 v27 v28 v29 v30 v31 v32 v33 v34 v35 v36 v37 v38 v39 v40 v41 v42 v43 v44 v45 v46 v47 v48 v49 v50 v51 v52 v53 v54 v55 v56 v57 v58 v59 v60 v61 v62 v63 v64 v65 v66 v67 v68 v69 v70 v71 v72 v73 v74 v75 v76 v77 v78 v79 v80 v81 v82 v83 v84 v85 v86 v87 v88 v89 v90 v91 v92 v93 v94 v95 v96 v97 v98 v99 v100 v101 v102 v103 v104 v105 v106 v107 v108 v109 v110 v111 v112 v113 v114 v115 v116 v117 v118 v119 v120 v121 v122 v123 v124 v125 v138 v139 v140 v141 v142 v143 v144 v145 v146 v147 v148 v149 v150 v151 v152 v153 v154 v155 v156 v157 v158 v159 v160 v161 v162 v163 v164 v165 v166 v167 v168 v169 v170 v171 v172 v173 y126 y127 y128 y129 y130 y131 y132 y133 y134 y135 y136 y137:Value)(wr:World)(Q:Exit->Act->World->Prop){e:Nat}(h:SF S.data.toList j e st outs)(he:e<=1)(hS:S.size<=4106)(hj:j+1<=S.size)(hm6:1<=6)(bz:Goes (aa (dT av outs) (aa (keepA P ww st) R)) w (fun _=>False) wr)(hQ: ∀(u126 u127 u128 u129 u130 u131 u132 u133 u134 u135 u136 u137:Value) (ao:Option Addr) (cp:Nat) (w1:World),Goes (aa (dT (.slice ao (outs++(st.feed 1 ((S.data.toList.drop j).take 1)).out).length cp) (outs++(st.feed 1 ((S.data.toList.drop j).take 1)).out)) (aa (keepA P ww (st.feed 1 ((S.data.toList.drop j).take 1)).told) R)) w (fun _=>False) w1->Q .normal ⟨#[v0,v1,v2,v3,v4,v5,v6,v7, .pointer (some ⟨ww,0,none⟩),v9, .string S,v11,v12,v13,v14,(.slice ao (outs++(st.feed 1 ((S.data.toList.drop j).take 1)).out).length cp), .int .i64 (j:Int),v17,v18,v19,v20,v21,v22,v23,v24,v25,v26,v27,v28,v29,v30,v31,v32,v33,v34,v35,v36,v37,v38,v39,v40,v41,v42,v43,v44,v45,v46,v47,v48,v49,v50,v51,v52,v53,v54,v55,v56,v57,v58,v59,v60,v61,v62,v63,v64,v65,v66,v67,v68,v69,v70,v71,v72,v73,v74,v75,v76,v77,v78,v79,v80,v81,v82,v83,v84,v85,v86,v87,v88,v89,v90,v91,v92,v93,v94,v95,v96,v97,v98,v99,v100,v101,v102,v103,v104,v105,v106,v107,v108,v109,v110,v111,v112,v113,v114,v115,v116,v117,v118,v119,v120,v121,v122,v123,v124,v125,u126,u127,u128,u129,u130,u131,u132,u133,u134,u135,u136,u137,v138,v139,v140,v141,v142,v143,v144,v145,v146,v147,v148,v149,v150,v151,v152,v153,v154,v155,v156,v157,v158,v159,v160,v161,v162,v163,v164,v165,v166,v167,v168,v169,v170,v171,v172,v173], []⟩ w1):(Code.region 29 (pieOps 29) true).wp prog Q ⟨#[v0,v1,v2,v3,v4,v5,v6,v7, .pointer (some ⟨ww,0,none⟩),v9, .string S,v11,v12,v13,v14,av, .int .i64 (j:Int),v17,v18,v19,v20,v21,v22,v23,v24,v25,v26,v27,v28,v29,v30,v31,v32,v33,v34,v35,v36,v37,v38,v39,v40,v41,v42,v43,v44,v45,v46,v47,v48,v49,v50,v51,v52,v53,v54,v55,v56,v57,v58,v59,v60,v61,v62,v63,v64,v65,v66,v67,v68,v69,v70,v71,v72,v73,v74,v75,v76,v77,v78,v79,v80,v81,v82,v83,v84,v85,v86,v87,v88,v89,v90,v91,v92,v93,v94,v95,v96,v97,v98,v99,v100,v101,v102,v103,v104,v105,v106,v107,v108,v109,v110,v111,v112,v113,v114,v115,v116,v117,v118,v119,v120,v121,v122,v123,v124,v125,y126,y127,y128,y129,y130,y131,y132,y133,y134,y135,y136,y137,v138,v139,v140,v141,v142,v143,v144,v145,v146,v147,v148,v149,v150,v151,v152,v153,v154,v155,v156,v157,v158,v159,v160,v161,v162,v163,v164,v165,v166,v167,v168,v169,v170,v171,v172,v173], []⟩ wr:=by
 obtain⟨x1,cx1,TF⟩:=CT P ww S (m:=1) h he hS hj R (af _) (ar _ _) jy bz;have PR:=hide TF;obtain⟨i0,kg,nV,j0,kC⟩:=info_parts JY;have D7:=h.len;have HNL:Hid (outs.length<=5000000000∧(st.feed 1 ((S.data.toList.drop j).take 1)).out.length<=200000):=⟨by omega,pie_out h 1 he hS hj hm6⟩;have ba1:(j:Int)<=(j:Int)+(1:Int):=by omega
 have bb1:(j:Int)+(1:Int)<=(S.size:Int):=by omega
 have bc1:((j:Int)+(1:Int)).toNat=j+1:=by omega
 have bd1:(0:Int)<=(j:Int)+(1:Int):=by omega
 have be1:IntKind.i64.wrap ((j:Int)+(1:Int))=(j:Int)+(1:Int):=by rw[IntKind.wrap_i64];omega
 clear TF D7 h bz;refine wp_region_any (by kernel_rfl) ?_;change wpAny _ _ _ _ _ _ _ (World.drew _);refine wT (fun l a w1=> ∃(b0 b1 b2 b3 b4 b5 b6 b7 b8 b9 b10 b11 b12:Bool) (u126 u127 u128 u129 u130 u131 u132 u133 u134 u135 u136 u137 u15:Value),l= #[b0,b1,b2,b3,b4,b5,b6,b7,b8,b9,b10,b11,b12]∧a=⟨#[v0,v1,v2,v3,v4,v5,v6,v7, .pointer (some ⟨ww,0,none⟩),v9, .string S,v11,v12,v13,v14,u15, .int .i64 (j:Int),v17,v18,v19,v20,v21,v22,v23,v24,v25,v26,v27,v28,v29,v30,v31,v32,v33,v34,v35,v36,v37,v38,v39,v40,v41,v42,v43,v44,v45,v46,v47,v48,v49,v50,v51,v52,v53,v54,v55,v56,v57,v58,v59,v60,v61,v62,v63,v64,v65,v66,v67,v68,v69,v70,v71,v72,v73,v74,v75,v76,v77,v78,v79,v80,v81,v82,v83,v84,v85,v86,v87,v88,v89,v90,v91,v92,v93,v94,v95,v96,v97,v98,v99,v100,v101,v102,v103,v104,v105,v106,v107,v108,v109,v110,v111,v112,v113,v114,v115,v116,v117,v118,v119,v120,v121,v122,v123,v124,v125,u126,u127,u128,u129,u130,u131,u132,u133,u134,u135,u136,u137,v138,v139,v140,v141,v142,v143,v144,v145,v146,v147,v148,v149,v150,v151,v152,v153,v154,v155,v156,v157,v158,v159,v160,v161,v162,v163,v164,v165,v166,v167,v168,v169,v170,v171,v172,v173], []⟩∧pie29F P ww x1 S j 1 st outs av R wr b0 b1 b2 b3 b4 b5 b6 b7 b8 b9 b10 b11 b12 u126 u127 u128 u129 u130 u131 u132 u133 u134 u135 u136 u137 u15 w1) ?_ ?_ _ _ _ _ ?_ ?_;rotate_left
 ·rintro l a w1⟨b0,b1,b2,b3,b4,b5,b6,b7,b8,b9,b10,b11,b12,u126,u127,u128,u129,u130,u131,u132,u133,u134,u135,u136,u137,u15,rfl,rfl,h⟩ hr;have e0:b0=true:=by
   cases b0 with
   |true=>rfl
   |false=>exact absurd (N5 (i:=0) (ops:=pieOps 29) (by rw[pie29_size];omega) (by kernel_rfl)) (by rw[hr];simp)
  subst e0;have e1:b1=true:=by
   cases b1 with
   |true=>rfl
   |false=>exact absurd (N5 (i:=1) (ops:=pieOps 29) (by rw[pie29_size];omega) (by kernel_rfl)) (by rw[hr];simp)
  subst e1;have e2:b2=true:=by
   cases b2 with
   |true=>rfl
   |false=>exact absurd (N5 (i:=2) (ops:=pieOps 29) (by rw[pie29_size];omega) (by kernel_rfl)) (by rw[hr];simp)
  subst e2;have e3:b3=true:=by
   cases b3 with
   |true=>rfl
   |false=>exact absurd (N5 (i:=3) (ops:=pieOps 29) (by rw[pie29_size];omega) (by kernel_rfl)) (by rw[hr];simp)
  subst e3;have e4:b4=true:=by
   cases b4 with
   |true=>rfl
   |false=>exact absurd (N5 (i:=4) (ops:=pieOps 29) (by rw[pie29_size];omega) (by kernel_rfl)) (by rw[hr];simp)
  subst e4;have e5:b5=true:=by
   cases b5 with
   |true=>rfl
   |false=>exact absurd (N5 (i:=5) (ops:=pieOps 29) (by rw[pie29_size];omega) (by kernel_rfl)) (by rw[hr];simp)
  subst e5;have e6:b6=true:=by
   cases b6 with
   |true=>rfl
   |false=>exact absurd (N5 (i:=6) (ops:=pieOps 29) (by rw[pie29_size];omega) (by kernel_rfl)) (by rw[hr];simp)
  subst e6;have e7:b7=true:=by
   cases b7 with
   |true=>rfl
   |false=>exact absurd (N5 (i:=7) (ops:=pieOps 29) (by rw[pie29_size];omega) (by kernel_rfl)) (by rw[hr];simp)
  subst e7;have e8:b8=true:=by
   cases b8 with
   |true=>rfl
   |false=>exact absurd (N5 (i:=8) (ops:=pieOps 29) (by rw[pie29_size];omega) (by kernel_rfl)) (by rw[hr];simp)
  subst e8;have e9:b9=true:=by
   cases b9 with
   |true=>rfl
   |false=>exact absurd (N5 (i:=9) (ops:=pieOps 29) (by rw[pie29_size];omega) (by kernel_rfl)) (by rw[hr];simp)
  subst e9;have e10:b10=true:=by
   cases b10 with
   |true=>rfl
   |false=>exact absurd (N5 (i:=10) (ops:=pieOps 29) (by rw[pie29_size];omega) (by kernel_rfl)) (by rw[hr];simp)
  subst e10;have e11:b11=true:=by
   cases b11 with
   |true=>rfl
   |false=>exact absurd (N5 (i:=11) (ops:=pieOps 29) (by rw[pie29_size];omega) (by kernel_rfl)) (by rw[hr];simp)
  subst e11;have e12:b12=true:=by
   cases b12 with
   |true=>rfl
   |false=>exact absurd (N5 (i:=12) (ops:=pieOps 29) (by rw[pie29_size];omega) (by kernel_rfl)) (by rw[hr];simp)
  subst e12;have hu:=h.fa rfl;obtain⟨ao,cp,hua,hg⟩:=h.Hl rfl;rw[hua]at hu;subst hu;exact hQ _ _ _ _ _ _ _ _ _ _ _ _ ao cp w1 hg
 ·exact⟨false,false,false,false,false,false,false,false,false,false,false,false,false,_,_,_,_,_,_,_,_,_,_,_,_,_,by kernel_rfl,rfl,⟨nofun,nofun,nofun,nofun,nofun,nofun,nofun,nofun,nofun,nofun,nofun,fun _=>rfl,fun _=>rfl,nofun,nofun,nofun,nofun,nofun,nofun⟩⟩
 ·exact au Array.countP_le_size (by simp)
 ·rintro i l a w1⟨b0,b1,b2,b3,b4,b5,b6,b7,b8,b9,b10,b11,b12,u126,u127,u128,u129,u130,u131,u132,u133,u134,u135,u136,u137,u15,rfl,rfl,h⟩ hi K hK;have aQ:=(xQ hi).1;rw[pie29_size]at aQ;have YM:=hide hK;clear hK hQ;obtain rfl|rfl|rfl|rfl|rfl|rfl|rfl|rfl|rfl|rfl|rfl|rfl|rfl:i=0∨i=1∨i=2∨i=3∨i=4∨i=5∨i=6∨i=7∨i=8∨i=9∨i=10∨i=11∨i=12:=by omega
  ·cases b0 with
   |true=>exact NS hi (by kernel_rfl)
   |false=>
   clear hi aQ;cases b12 with
   |true=>exact absurd (h.ic rfl) (by decide)
   |false=>
   have hz:=(h.old rfl).symm;subst hz;simp only[pieOps,f14,nK,Nat.reduceEqDiff,reduceIte,Option.getD_some];refine OS (by rfl) rfl ?_;have HH:=hide h;clear h;go_wp2;exact YM.out _ _ ⟨true,b1,b2,b3,b4,b5,b6,b7,b8,b9,b10,b11,false,_,_,_,_,_,_,_,_,_,_,_,_,_,by kernel_rfl,rfl,⟨fun _=>rfl,HH.out.f1,HH.out.f2,HH.out.f3,HH.out.f4,HH.out.f5,HH.out.f6,HH.out.f7,HH.out.f8,HH.out.f9,HH.out.fa,HH.out.old,HH.out.w0,HH.out.w9,HH.out.Hl,HH.out.ia,HH.out.ib,fun _=>rfl,HH.out.ix⟩⟩
  ·cases b1 with
   |true=>exact NS hi (by kernel_rfl)
   |false=>
   clear hi aQ;simp only[pieOps,f14,nK,Nat.reduceEqDiff,reduceIte,Option.getD_some];refine OS (by rfl) rfl ?_;have HH:=hide h;clear h;go_wp2;exact YM.out _ _ ⟨b0,true,b2,b3,b4,b5,b6,b7,b8,b9,b10,b11,b12,_,_,_,_,_,_,_,_,_,_,_,_,_,by kernel_rfl,rfl,⟨HH.out.f0,fun _=>rfl,HH.out.f2,HH.out.f3,HH.out.f4,HH.out.f5,HH.out.f6,HH.out.f7,HH.out.f8,HH.out.f9,HH.out.fa,HH.out.old,HH.out.w0,HH.out.w9,HH.out.Hl,HH.out.ia,HH.out.ib,HH.out.ic,HH.out.ix⟩⟩
  ·cases b2 with
   |true=>exact NS hi (by kernel_rfl)
   |false=>
   cases b1 with
   |false=>exact NS hi (by kernel_rfl)
   |true=>
   clear hi aQ;have hu1:=h.f1 rfl;subst hu1;simp only[pieOps,f14,nK,Nat.reduceEqDiff,reduceIte,Option.getD_some];refine OS (by rfl) rfl ?_;have HH:=hide h;clear h;go_wp2;exact YM.out _ _ ⟨b0,true,true,b3,b4,b5,b6,b7,b8,b9,b10,b11,b12,_,_,_,_,_,_,_,_,_,_,_,_,_,by kernel_rfl,rfl,⟨HH.out.f0,HH.out.f1,fun _=>rfl,HH.out.f3,HH.out.f4,HH.out.f5,HH.out.f6,HH.out.f7,HH.out.f8,HH.out.f9,HH.out.fa,HH.out.old,HH.out.w0,HH.out.w9,HH.out.Hl,HH.out.ia,HH.out.ib,HH.out.ic,HH.out.ix⟩⟩
  ·cases b3 with
   |true=>exact NS hi (by kernel_rfl)
   |false=>
   cases b2 with
   |false=>exact NS hi (by kernel_rfl)
   |true=>
   clear hi aQ;have hu2:=h.f2 rfl;subst hu2;simp only[pieOps,f14,nK,Nat.reduceEqDiff,reduceIte,Option.getD_some];refine OS (by rfl) rfl ?_;have HH:=hide h;clear h;go_wp2;exact YM.out _ _ ⟨b0,b1,true,true,b4,b5,b6,b7,b8,b9,b10,b11,b12,_,_,_,_,_,_,_,_,_,_,_,_,_,by kernel_rfl,rfl,⟨HH.out.f0,HH.out.f1,HH.out.f2,fun _=>rfl,HH.out.f4,HH.out.f5,HH.out.f6,HH.out.f7,HH.out.f8,HH.out.f9,HH.out.fa,HH.out.old,HH.out.w0,HH.out.w9,HH.out.Hl,HH.out.ia,HH.out.ib,HH.out.ic,HH.out.ix⟩⟩
  ·cases b4 with
   |true=>exact NS hi (by kernel_rfl)
   |false=>
   cases b3 with
   |false=>exact NS hi (by kernel_rfl)
   |true=>
   clear hi aQ;cases b10 with
   |true=>exact absurd (h.ib rfl) (by decide)
   |false=>
   have hz:=h.w0 rfl;subst hz;have hu3:=h.f3 rfl;subst hu3;simp only[pieOps,f14,nK,Nat.reduceEqDiff,reduceIte,Option.getD_some];refine OS (by rfl) rfl ?_;have HH:=hide h;clear h;go_wp2;exact YM.out _ _ ⟨b0,b1,b2,true,true,b5,b6,b7,b8,b9,false,b11,b12,_,_,_,_,_,_,_,_,_,_,_,_,_,by kernel_rfl,rfl,⟨HH.out.f0,HH.out.f1,HH.out.f2,HH.out.f3,fun _=>rfl,HH.out.f5,HH.out.f6,HH.out.f7,HH.out.f8,HH.out.f9,HH.out.fa,HH.out.old,HH.out.w0,HH.out.w9,HH.out.Hl,HH.out.ia,fun _=>rfl,HH.out.ic,HH.out.ix⟩⟩
  ·cases b5 with
   |true=>exact NS hi (by kernel_rfl)
   |false=>
   clear hi aQ;simp only[pieOps,f14,nK,Nat.reduceEqDiff,reduceIte,Option.getD_some];refine OS (by rfl) rfl ?_;have HH:=hide h;clear h;go_wp2;exact YM.out _ _ ⟨b0,b1,b2,b3,b4,true,b6,b7,b8,b9,b10,b11,b12,_,_,_,_,_,_,_,_,_,_,_,_,_,by kernel_rfl,rfl,⟨HH.out.f0,HH.out.f1,HH.out.f2,HH.out.f3,HH.out.f4,fun _=>rfl,HH.out.f6,HH.out.f7,HH.out.f8,HH.out.f9,HH.out.fa,HH.out.old,HH.out.w0,HH.out.w9,HH.out.Hl,HH.out.ia,HH.out.ib,HH.out.ic,HH.out.ix⟩⟩
  ·cases b6 with
   |true=>exact NS hi (by kernel_rfl)
   |false=>
   clear hi aQ;simp only[pieOps,f14,nK,Nat.reduceEqDiff,reduceIte,Option.getD_some];refine OS (by rfl) rfl ?_;have HH:=hide h;clear h;go_wp2;exact YM.out _ _ ⟨b0,b1,b2,b3,b4,b5,true,b7,b8,b9,b10,b11,b12,_,_,_,_,_,_,_,_,_,_,_,_,_,by kernel_rfl,rfl,⟨HH.out.f0,HH.out.f1,HH.out.f2,HH.out.f3,HH.out.f4,HH.out.f5,fun _=>rfl,HH.out.f7,HH.out.f8,HH.out.f9,HH.out.fa,HH.out.old,HH.out.w0,HH.out.w9,HH.out.Hl,HH.out.ia,HH.out.ib,HH.out.ic,HH.out.ix⟩⟩
  ·cases b7 with
   |true=>exact NS hi (by kernel_rfl)
   |false=>
   clear hi aQ;simp only[pieOps,f14,nK,Nat.reduceEqDiff,reduceIte,Option.getD_some];refine OS (by rfl) rfl ?_;have HH:=hide h;clear h;go_wp2;exact YM.out _ _ ⟨b0,b1,b2,b3,b4,b5,b6,true,b8,b9,b10,b11,b12,_,_,_,_,_,_,_,_,_,_,_,_,_,by kernel_rfl,rfl,⟨HH.out.f0,HH.out.f1,HH.out.f2,HH.out.f3,HH.out.f4,HH.out.f5,HH.out.f6,fun _=>rfl,HH.out.f8,HH.out.f9,HH.out.fa,HH.out.old,HH.out.w0,HH.out.w9,HH.out.Hl,HH.out.ia,HH.out.ib,HH.out.ic,HH.out.ix⟩⟩
  ·cases b8 with
   |true=>exact NS hi (by kernel_rfl)
   |false=>
   cases b7 with
   |false=>exact NS hi (by kernel_rfl)
   |true=>
   clear hi aQ;have hu7:=h.f7 rfl;subst hu7;simp only[pieOps,f14,nK,Nat.reduceEqDiff,reduceIte,Option.getD_some];refine OS (by rfl) rfl ?_;have HH:=hide h;clear h;go_wp2;exact YM.out _ _ ⟨b0,b1,b2,b3,b4,b5,b6,true,true,b9,b10,b11,b12,_,_,_,_,_,_,_,_,_,_,_,_,_,by kernel_rfl,rfl,⟨HH.out.f0,HH.out.f1,HH.out.f2,HH.out.f3,HH.out.f4,HH.out.f5,HH.out.f6,HH.out.f7,fun _=>rfl,HH.out.f9,HH.out.fa,HH.out.old,HH.out.w0,HH.out.w9,HH.out.Hl,HH.out.ia,HH.out.ib,HH.out.ic,HH.out.ix⟩⟩
  ·cases b9 with
   |true=>exact NS hi (by kernel_rfl)
   |false=>
   cases b5 with
   |false=>exact NS hi (by kernel_rfl)
   |true=>
   cases b6 with
   |false=>exact NS hi (by kernel_rfl)
   |true=>
   cases b8 with
   |false=>exact NS hi (by kernel_rfl)
   |true=>
   clear hi aQ;have hu5:=h.f5 rfl;have hu6:=h.f6 rfl;have hu8:=h.f8 rfl;subst hu5;subst hu6;subst hu8;simp only[pieOps,f14,nK,Nat.reduceEqDiff,reduceIte,Option.getD_some];refine OS (by rfl) rfl ?_;have HH:=hide h;clear h;go_wp2;exact YM.out _ _ ⟨b0,b1,b2,b3,b4,true,true,b7,true,true,b10,b11,b12,_,_,_,_,_,_,_,_,_,_,_,_,_,by kernel_rfl,rfl,⟨HH.out.f0,HH.out.f1,HH.out.f2,HH.out.f3,HH.out.f4,HH.out.f5,HH.out.f6,HH.out.f7,HH.out.f8,fun _=>rfl,HH.out.fa,HH.out.old,HH.out.w0,HH.out.w9,HH.out.Hl,HH.out.ia,HH.out.ib,HH.out.ic,HH.out.ix⟩⟩
  ·cases b10 with
   |true=>exact NS hi (by kernel_rfl)
   |false=>
   cases b4 with
   |false=>exact NS hi (by kernel_rfl)
   |true=>
   cases b9 with
   |false=>exact NS hi (by kernel_rfl)
   |true=>
   clear hi aQ;cases b11 with
   |true=>exact absurd (h.ia rfl) (by decide)
   |false=>
   have hz:=h.w0 rfl;subst hz;have hu4:=h.f4 rfl;have hu9:=h.f9 rfl;subst hu4;subst hu9;simp only[pieOps,f14,nK,Nat.reduceEqDiff,reduceIte,Option.getD_some];refine OS (by rfl) rfl ?_;have HH:=hide h;clear h;go_wp2_with fail;refine PR.out.mono ?_;rintro e w9⟨v9,rfl,_,G9,VI,Zy,_,_,WJ,hfin⟩;have HQ9:Hid (FedQ P ww S j 1 st outs av R v9 w9):=⟨G9,VI,Zy,WJ,hfin⟩;clear Zy WJ hfin PR;go_wp2;exact YM.out _ _ ⟨b0,b1,b2,b3,true,b5,b6,b7,b8,true,true,false,b12,_,_,_,_,_,_,_,_,_,_,_,_,_,by kernel_rfl,rfl,⟨HH.out.f0,HH.out.f1,HH.out.f2,HH.out.f3,HH.out.f4,HH.out.f5,HH.out.f6,HH.out.f7,HH.out.f8,HH.out.f9,HH.out.fa,HH.out.old,nofun,fun _ _=>HQ9.out,nofun,nofun,fun _=>rfl,HH.out.ic,HH.out.ix⟩⟩
  ·cases b11 with
   |true=>exact NS hi (by kernel_rfl)
   |false=>
   cases b0 with
   |false=>exact NS hi (by kernel_rfl)
   |true=>
   cases b10 with
   |false=>exact NS hi (by kernel_rfl)
   |true=>
   clear hi aQ;cases b12 with
   |true=>exact absurd (h.ix rfl) (by decide)
   |false=>
   obtain⟨G9,VI,Zy,WJ,hfin⟩:=h.w9 rfl rfl;have hu0:=(h.f0 rfl).symm;subst hu0;simp only[pieOps,f14,nK,Nat.reduceEqDiff,reduceIte,Option.getD_some];refine OS (by rfl) rfl ?_;have HH:=hide h;clear h;refine uF w1 _ _ _ (by rfl) 51 i0 _ 2 24 underlying32 kg nV j0 kC rfl (by omega) (F:=G9) (G:=VI) av outs.length (flat o8 outs) (by rfl) Zy u136 _ (flat o8 (st.feed 1 ((S.data.toList.drop j).take 1)).out) (by rfl) WJ (CQ _) (by have:=HNL.out;unfold maxLen;omega) (by have:=HNL.out;omega) ?_;intro ao cp Hl TP;exact YM.out _ _ ⟨true,b1,b2,b3,b4,b5,b6,b7,b8,b9,true,true,false,_,_,_,_,_,_,_,_,_,_,_,_,_,by kernel_rfl,rfl,⟨HH.out.f0,HH.out.f1,HH.out.f2,HH.out.f3,HH.out.f4,HH.out.f5,HH.out.f6,HH.out.f7,HH.out.f8,HH.out.f9,nofun,HH.out.old,nofun,(fun _ h=>nomatch h),fun _=>⟨ao,cp,by rw[aC],hfin ao cp Hl TP⟩,fun _=>rfl,HH.out.ib,HH.out.ic,fun _=>rfl⟩⟩
  ·cases b12 with
   |true=>exact NS hi (by kernel_rfl)
   |false=>
   cases b11 with
   |false=>exact NS hi (by kernel_rfl)
   |true=>
   cases b0 with
   |false=>exact NS hi (by kernel_rfl)
   |true=>
   cases b1 with
   |false=>exact NS hi (by kernel_rfl)
   |true=>
   cases b2 with
   |false=>exact NS hi (by kernel_rfl)
   |true=>
   cases b3 with
   |false=>exact NS hi (by kernel_rfl)
   |true=>
   cases b4 with
   |false=>exact NS hi (by kernel_rfl)
   |true=>
   cases b5 with
   |false=>exact NS hi (by kernel_rfl)
   |true=>
   cases b6 with
   |false=>exact NS hi (by kernel_rfl)
   |true=>
   cases b7 with
   |false=>exact NS hi (by kernel_rfl)
   |true=>
   cases b8 with
   |false=>exact NS hi (by kernel_rfl)
   |true=>
   cases b9 with
   |false=>exact NS hi (by kernel_rfl)
   |true=>
   cases b10 with
   |false=>exact NS hi (by kernel_rfl)
   |true=>
   clear hi aQ;simp only[pieOps,f14,nK,Nat.reduceEqDiff,reduceIte,Option.getD_some];refine OS (by rfl) rfl ?_;have HH:=hide h;clear h;go_wp2;exact YM.out _ _ ⟨true,true,true,true,true,true,true,true,true,true,true,true,true,_,_,_,_,_,_,_,_,_,_,_,_,_,by kernel_rfl,rfl,⟨HH.out.f0,HH.out.f1,HH.out.f2,HH.out.f3,HH.out.f4,HH.out.f5,HH.out.f6,HH.out.f7,HH.out.f8,HH.out.f9,fun _=>rfl,nofun,HH.out.w0,HH.out.w9,HH.out.Hl,HH.out.ia,HH.out.ib,fun _=>rfl,fun _=>rfl⟩⟩
