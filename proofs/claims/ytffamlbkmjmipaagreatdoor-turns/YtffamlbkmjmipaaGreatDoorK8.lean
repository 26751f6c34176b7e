import Derived.Test.YtffamlbkmjmipaaGreatDoorK7
set_option maxHeartbeats 8000000
set_option maxRecDepth 100000
namespace Go.Proofs.YtffamlbkmjmipaaGreatDoor
open _root_.Go.Proofs.Tryz
namespace Kp
open Go.RowKit aD Mc Mr Lw bA
attribute [local go_sem] aP.ae aP.ah
noncomputable def turOps (id:Nat):Array Oper:=match f9.body with|some c=>(nK id c).getD #[]|none=> #[]
theorem reg13_size:(turOps 13).size=23:=by kernel_rfl
structure reg13F{w:World}(P:iC w.heap.size w)(wp:Nat)(s s':St)(fk sub acc:Bs)(t:Nat)(id:Int)(b0 b1 b2 b3 b4 b5 b6 b7 b8 b9 b10 b11 b12 b13 b14 b15 b16 b17 b18 b19 b20 b21 b22:Bool)(u38 u39 u40 u41 u42 u43 u44 u45 u46 u47 u48 u49 u50 u51 u52 u53 u54 u55 u56 u57 u58 u59 u60:Value)(w1:World):Prop where
 f0:b0=true->u38= .pointer (some ⟨wp,0,none⟩)
 f1:b1=true->u39= .int .i64 id
 f2:b2=true->u40= .string ⟨fk.toArray⟩
 f3:b3=true->u41= .string (⟨#[115,117,98,32]⟩++⟨fk.toArray⟩)
 f4:b4=true->u42= .string ((⟨#[115,117,98,32]⟩++⟨fk.toArray⟩)++⟨#[32]⟩)
 f5:b5=true->u43= .int .i64 (t:Int)
 f6:b6=true->u44= .int .i64 (97+(t:Int))
 f7:b7=true->u45= .int .u8 (97+(t:Int))
 f9:b9=true->u47= .string ⟨#[97+UInt8.ofNat t]⟩
 f10:b10=true->u48= .string (((⟨#[115,117,98,32]⟩++⟨fk.toArray⟩)++⟨#[32]⟩)++⟨#[97+UInt8.ofNat t]⟩)
 f11:b11=true->u49= .string ((((⟨#[115,117,98,32]⟩++⟨fk.toArray⟩)++⟨#[32]⟩)++⟨#[97+UInt8.ofNat t]⟩)++⟨#[32,112]⟩)
 f12:b12=true->u50= .int .i64 id
 f13:b13=true->u51= .string ⟨fk.toArray⟩
 f14:b14=true->u52= .string ⟨sub.toArray⟩
 f17:b17=true->u55= .int .i64 id
 f18:b18=true->u56= .string ⟨fk.toArray⟩
 f19:b19=true->u57= .string ⟨acc.toArray⟩
 f21:b21=true->u59= .bool true
 f22:b22=true->u60= .bool false
 im:b21=true->b15=true
 wv:Wv P wp s s' [(1,acc)] (97+(t:Int)) b8 b16 b20 b15 b21 u46 u54 u58 u53 w1
theorem reg13{w:World}(P:iC w.heap.size w)(wp:Nat)(s s':St)(fk sub acc:Bs)(t:Nat)(id:Int)(v0 v1 v2 v3 v4 v6 v8 v10 v11 v12 v13 v14 v15 v16 v17 v18 v19 v20 v21 v22 v23 v24 v25 v26 v27 v28 v29 v30 v31 v32 v33 v34 v35 v36 v37 v61 v62 v63 v64 v65 v66 v67 v68 v69 v70 v71 v72 v73 v74 v75 v76 v77 v78 v79 v80 v81 v82 v83 v84 v85 v86 v87 v88 v89 v90 v91 v92 v93 v94 v95 v96 v97 v98 v99 v100 v101 v102 v103 v104 v105 v106 v107 v108 v109 v110 v111 v112 v113 v114 v115 v116 v117 v118 v119 v120 v121 v122 v123 v124 v125 v126 v127 v128 v129 v130 v131 v132 v133 v134 v135 v136 v137 v138 v139 v140 v141 v142 v143 v144 v145 v146 v147 v148 v149 v150 y38 y39 y40 y41 y42 y43 y44 y45 y46 y47 y48 y49 y50 y51 y52 y53 y54 y55 y56 y57 y58 y59 y60:Value)(wr:World)(Q:Exit->Act->World->Prop){n:Nat}(hk:ie P wp n s wr)(ra:Stp s ⟨.tell 1 sub, [(1,acc)]⟩ s')(hn:n<=100000)(ht:t<=5)(Jz:fk.length<=20)(Jn:acc.length<=1048576)(LR: ∀w1,Calls prog 24 #[.int .i64 id] w1 fun e w2=>e= .returned (.string ⟨fk.toArray⟩)∧Below w1.heap.size w1 w2)(hT1:(⟨#[115,117,98,32]⟩:ByteArray)++⟨fk.toArray⟩++⟨#[32]⟩++⟨#[97+UInt8.ofNat t]⟩++⟨#[32,112]⟩++⟨fk.toArray⟩=⟨sub.toArray⟩)(hT2:(⟨#[97,99,99,32]⟩:ByteArray)++⟨fk.toArray⟩=⟨acc.toArray⟩)(hQ: ∀(u38 u39 u40 u41 u42 u43 u44 u45 u46 u47 u48 u49 u50 u51 u52 u53 u54 u55 u56 u57 u58 u59:Value) (w1:World),ie P wp (n+1) s' w1->Q .normal ⟨#[v0,v1,v2,v3,v4, .pointer (some ⟨wp,0,none⟩),v6, .int .i64 (t:Int),v8, .int .i64 id,v10,v11,v12,v13,v14,v15,v16,v17,v18,v19,v20,v21,v22,v23,v24,v25,v26,v27,v28,v29,v30,v31,v32,v33,v34,v35,v36,v37,u38,u39,u40,u41,u42,u43,u44,u45,u46,u47,u48,u49,u50,u51,u52,u53,u54,u55,u56,u57,u58,u59,(.bool false),v61,v62,v63,v64,v65,v66,v67,v68,v69,v70,v71,v72,v73,v74,v75,v76,v77,v78,v79,v80,v81,v82,v83,v84,v85,v86,v87,v88,v89,v90,v91,v92,v93,v94,v95,v96,v97,v98,v99,v100,v101,v102,v103,v104,v105,v106,v107,v108,v109,v110,v111,v112,v113,v114,v115,v116,v117,v118,v119,v120,v121,v122,v123,v124,v125,v126,v127,v128,v129,v130,v131,v132,v133,v134,v135,v136,v137,v138,v139,v140,v141,v142,v143,v144,v145,v146,v147,v148,v149,v150], []⟩ w1):(Code.region 13 (turOps 13) true).wp prog Q ⟨#[v0,v1,v2,v3,v4, .pointer (some ⟨wp,0,none⟩),v6, .int .i64 (t:Int),v8, .int .i64 id,v10,v11,v12,v13,v14,v15,v16,v17,v18,v19,v20,v21,v22,v23,v24,v25,v26,v27,v28,v29,v30,v31,v32,v33,v34,v35,v36,v37,y38,y39,y40,y41,y42,y43,y44,y45,y46,y47,y48,y49,y50,y51,y52,y53,y54,y55,y56,y57,y58,y59,y60,v61,v62,v63,v64,v65,v66,v67,v68,v69,v70,v71,v72,v73,v74,v75,v76,v77,v78,v79,v80,v81,v82,v83,v84,v85,v86,v87,v88,v89,v90,v91,v92,v93,v94,v95,v96,v97,v98,v99,v100,v101,v102,v103,v104,v105,v106,v107,v108,v109,v110,v111,v112,v113,v114,v115,v116,v117,v118,v119,v120,v121,v122,v123,v124,v125,v126,v127,v128,v129,v130,v131,v132,v133,v134,v135,v136,v137,v138,v139,v140,v141,v142,v143,v144,v145,v146,v147,v148,v149,v150], []⟩ wr:=by
 have HGS:=hide (ra.good hk.1);have HGD:=hide hk.1;have nW:=hide LR;have mV:=hide ra;have pS:=hide hT1;have mG:=hide hT2;have HAC:=hide Jn;have HN:=hide hn;have fZ:IntKind.i64.wrap (97+(t:Int))=97+(t:Int):=by rw[IntKind.wrap_i64];omega
 have Pu:IntKind.u8.wrap (97+(t:Int))=97+(t:Int):=by simp[IntKind.wrap,IntKind.bits,IntKind.signed];omega
 clear LR hT1 hT2 Jn hn ra;refine wp_region_any (by kernel_rfl) ?_;change wpAny _ _ _ _ _ _ _ (World.drew _);refine wT (fun l a w1=> ∃(b0 b1 b2 b3 b4 b5 b6 b7 b8 b9 b10 b11 b12 b13 b14 b15 b16 b17 b18 b19 b20 b21 b22:Bool) (u38 u39 u40 u41 u42 u43 u44 u45 u46 u47 u48 u49 u50 u51 u52 u53 u54 u55 u56 u57 u58 u59 u60:Value),l= #[b0,b1,b2,b3,b4,b5,b6,b7,b8,b9,b10,b11,b12,b13,b14,b15,b16,b17,b18,b19,b20,b21,b22]∧a=⟨#[v0,v1,v2,v3,v4, .pointer (some ⟨wp,0,none⟩),v6, .int .i64 (t:Int),v8, .int .i64 id,v10,v11,v12,v13,v14,v15,v16,v17,v18,v19,v20,v21,v22,v23,v24,v25,v26,v27,v28,v29,v30,v31,v32,v33,v34,v35,v36,v37,u38,u39,u40,u41,u42,u43,u44,u45,u46,u47,u48,u49,u50,u51,u52,u53,u54,u55,u56,u57,u58,u59,u60,v61,v62,v63,v64,v65,v66,v67,v68,v69,v70,v71,v72,v73,v74,v75,v76,v77,v78,v79,v80,v81,v82,v83,v84,v85,v86,v87,v88,v89,v90,v91,v92,v93,v94,v95,v96,v97,v98,v99,v100,v101,v102,v103,v104,v105,v106,v107,v108,v109,v110,v111,v112,v113,v114,v115,v116,v117,v118,v119,v120,v121,v122,v123,v124,v125,v126,v127,v128,v129,v130,v131,v132,v133,v134,v135,v136,v137,v138,v139,v140,v141,v142,v143,v144,v145,v146,v147,v148,v149,v150], []⟩∧reg13F P wp s s' fk sub acc t id b0 b1 b2 b3 b4 b5 b6 b7 b8 b9 b10 b11 b12 b13 b14 b15 b16 b17 b18 b19 b20 b21 b22 u38 u39 u40 u41 u42 u43 u44 u45 u46 u47 u48 u49 u50 u51 u52 u53 u54 u55 u56 u57 u58 u59 u60 w1) ?_ ?_ _ _ _ _ ?_ ?_;rotate_left
 ·rintro l a w1⟨b0,b1,b2,b3,b4,b5,b6,b7,b8,b9,b10,b11,b12,b13,b14,b15,b16,b17,b18,b19,b20,b21,b22,u38,u39,u40,u41,u42,u43,u44,u45,u46,u47,u48,u49,u50,u51,u52,u53,u54,u55,u56,u57,u58,u59,u60,rfl,rfl,h⟩ hr;have e0:b0=true:=by
   cases b0 with
   |true=>rfl
   |false=>exact absurd (N5 (i:=0) (ops:=turOps 13) (by rw[reg13_size];omega) (by kernel_rfl)) (by rw[hr];simp)
  subst e0;have e1:b1=true:=by
   cases b1 with
   |true=>rfl
   |false=>exact absurd (N5 (i:=1) (ops:=turOps 13) (by rw[reg13_size];omega) (by kernel_rfl)) (by rw[hr];simp)
  subst e1;have e2:b2=true:=by
   cases b2 with
   |true=>rfl
   |false=>exact absurd (N5 (i:=2) (ops:=turOps 13) (by rw[reg13_size];omega) (by kernel_rfl)) (by rw[hr];simp)
  subst e2;have e3:b3=true:=by
   cases b3 with
   |true=>rfl
   |false=>exact absurd (N5 (i:=3) (ops:=turOps 13) (by rw[reg13_size];omega) (by kernel_rfl)) (by rw[hr];simp)
  subst e3;have e4:b4=true:=by
   cases b4 with
   |true=>rfl
   |false=>exact absurd (N5 (i:=4) (ops:=turOps 13) (by rw[reg13_size];omega) (by kernel_rfl)) (by rw[hr];simp)
  subst e4;have e5:b5=true:=by
   cases b5 with
   |true=>rfl
   |false=>exact absurd (N5 (i:=5) (ops:=turOps 13) (by rw[reg13_size];omega) (by kernel_rfl)) (by rw[hr];simp)
  subst e5;have e6:b6=true:=by
   cases b6 with
   |true=>rfl
   |false=>exact absurd (N5 (i:=6) (ops:=turOps 13) (by rw[reg13_size];omega) (by kernel_rfl)) (by rw[hr];simp)
  subst e6;have e7:b7=true:=by
   cases b7 with
   |true=>rfl
   |false=>exact absurd (N5 (i:=7) (ops:=turOps 13) (by rw[reg13_size];omega) (by kernel_rfl)) (by rw[hr];simp)
  subst e7;have e8:b8=true:=by
   cases b8 with
   |true=>rfl
   |false=>exact absurd (N5 (i:=8) (ops:=turOps 13) (by rw[reg13_size];omega) (by kernel_rfl)) (by rw[hr];simp)
  subst e8;have e9:b9=true:=by
   cases b9 with
   |true=>rfl
   |false=>exact absurd (N5 (i:=9) (ops:=turOps 13) (by rw[reg13_size];omega) (by kernel_rfl)) (by rw[hr];simp)
  subst e9;have e10:b10=true:=by
   cases b10 with
   |true=>rfl
   |false=>exact absurd (N5 (i:=10) (ops:=turOps 13) (by rw[reg13_size];omega) (by kernel_rfl)) (by rw[hr];simp)
  subst e10;have e11:b11=true:=by
   cases b11 with
   |true=>rfl
   |false=>exact absurd (N5 (i:=11) (ops:=turOps 13) (by rw[reg13_size];omega) (by kernel_rfl)) (by rw[hr];simp)
  subst e11;have e12:b12=true:=by
   cases b12 with
   |true=>rfl
   |false=>exact absurd (N5 (i:=12) (ops:=turOps 13) (by rw[reg13_size];omega) (by kernel_rfl)) (by rw[hr];simp)
  subst e12;have e13:b13=true:=by
   cases b13 with
   |true=>rfl
   |false=>exact absurd (N5 (i:=13) (ops:=turOps 13) (by rw[reg13_size];omega) (by kernel_rfl)) (by rw[hr];simp)
  subst e13;have e14:b14=true:=by
   cases b14 with
   |true=>rfl
   |false=>exact absurd (N5 (i:=14) (ops:=turOps 13) (by rw[reg13_size];omega) (by kernel_rfl)) (by rw[hr];simp)
  subst e14;have e15:b15=true:=by
   cases b15 with
   |true=>rfl
   |false=>exact absurd (N5 (i:=15) (ops:=turOps 13) (by rw[reg13_size];omega) (by kernel_rfl)) (by rw[hr];simp)
  subst e15;have e16:b16=true:=by
   cases b16 with
   |true=>rfl
   |false=>exact absurd (N5 (i:=16) (ops:=turOps 13) (by rw[reg13_size];omega) (by kernel_rfl)) (by rw[hr];simp)
  subst e16;have e17:b17=true:=by
   cases b17 with
   |true=>rfl
   |false=>exact absurd (N5 (i:=17) (ops:=turOps 13) (by rw[reg13_size];omega) (by kernel_rfl)) (by rw[hr];simp)
  subst e17;have e18:b18=true:=by
   cases b18 with
   |true=>rfl
   |false=>exact absurd (N5 (i:=18) (ops:=turOps 13) (by rw[reg13_size];omega) (by kernel_rfl)) (by rw[hr];simp)
  subst e18;have e19:b19=true:=by
   cases b19 with
   |true=>rfl
   |false=>exact absurd (N5 (i:=19) (ops:=turOps 13) (by rw[reg13_size];omega) (by kernel_rfl)) (by rw[hr];simp)
  subst e19;have e20:b20=true:=by
   cases b20 with
   |true=>rfl
   |false=>exact absurd (N5 (i:=20) (ops:=turOps 13) (by rw[reg13_size];omega) (by kernel_rfl)) (by rw[hr];simp)
  subst e20;have e21:b21=true:=by
   cases b21 with
   |true=>rfl
   |false=>exact absurd (N5 (i:=21) (ops:=turOps 13) (by rw[reg13_size];omega) (by kernel_rfl)) (by rw[hr];simp)
  subst e21;have e22:b22=true:=by
   cases b22 with
   |true=>rfl
   |false=>exact absurd (N5 (i:=22) (ops:=turOps 13) (by rw[reg13_size];omega) (by kernel_rfl)) (by rw[hr];simp)
  subst e22;have hu:=h.f22 rfl;subst hu;exact hQ _ _ _ _ _ _ _ _ _ _ _ _ _ _ _ _ _ _ _ _ _ _ _ (h.wv.fin HGS.out)
 ·exact⟨false,false,false,false,false,false,false,false,false,false,false,false,false,false,false,false,false,false,false,false,false,false,false,_,_,_,_,_,_,_,_,_,_,_,_,_,_,_,_,_,_,_,_,_,_,_,by kernel_rfl,rfl,⟨nofun,nofun,nofun,nofun,nofun,nofun,nofun,nofun,nofun,nofun,nofun,nofun,nofun,nofun,nofun,nofun,nofun,nofun,nofun,nofun,Wv.start (hk.below (ar _ _).drew)⟩⟩
 ·exact au Array.countP_le_size (by simp)
 ·rintro i l a w1⟨b0,b1,b2,b3,b4,b5,b6,b7,b8,b9,b10,b11,b12,b13,b14,b15,b16,b17,b18,b19,b20,b21,b22,u38,u39,u40,u41,u42,u43,u44,u45,u46,u47,u48,u49,u50,u51,u52,u53,u54,u55,u56,u57,u58,u59,u60,rfl,rfl,h⟩ hi K hK;have aQ:=(xQ hi).1;rw[reg13_size]at aQ;have YM:=hide hK;clear hK hQ;obtain rfl|rfl|rfl|rfl|rfl|rfl|rfl|rfl|rfl|rfl|rfl|rfl|rfl|rfl|rfl|rfl|rfl|rfl|rfl|rfl|rfl|rfl|rfl:i=0∨i=1∨i=2∨i=3∨i=4∨i=5∨i=6∨i=7∨i=8∨i=9∨i=10∨i=11∨i=12∨i=13∨i=14∨i=15∨i=16∨i=17∨i=18∨i=19∨i=20∨i=21∨i=22:=by omega
  ·cases b0 with
   |true=>exact NS hi (by kernel_rfl)
   |false=>
   clear hi aQ;simp only[turOps,f9,nK,Nat.reduceEqDiff,reduceIte,Option.getD_some];refine OS (by rfl) rfl ?_;have HH:=hide h;clear h;go_wp2;exact YM.out _ _ ⟨true,b1,b2,b3,b4,b5,b6,b7,b8,b9,b10,b11,b12,b13,b14,b15,b16,b17,b18,b19,b20,b21,b22,_,_,_,_,_,_,_,_,_,_,_,_,_,_,_,_,_,_,_,_,_,_,_,by kernel_rfl,rfl,⟨fun _=>rfl,HH.out.f1,HH.out.f2,HH.out.f3,HH.out.f4,HH.out.f5,HH.out.f6,HH.out.f7,HH.out.f9,HH.out.f10,HH.out.f11,HH.out.f12,HH.out.f13,HH.out.f14,HH.out.f17,HH.out.f18,HH.out.f19,HH.out.f21,HH.out.f22,HH.out.im,HH.out.wv⟩⟩
  ·cases b1 with
   |true=>exact NS hi (by kernel_rfl)
   |false=>
   clear hi aQ;simp only[turOps,f9,nK,Nat.reduceEqDiff,reduceIte,Option.getD_some];refine OS (by rfl) rfl ?_;have HH:=hide h;clear h;go_wp2;exact YM.out _ _ ⟨b0,true,b2,b3,b4,b5,b6,b7,b8,b9,b10,b11,b12,b13,b14,b15,b16,b17,b18,b19,b20,b21,b22,_,_,_,_,_,_,_,_,_,_,_,_,_,_,_,_,_,_,_,_,_,_,_,by kernel_rfl,rfl,⟨HH.out.f0,fun _=>rfl,HH.out.f2,HH.out.f3,HH.out.f4,HH.out.f5,HH.out.f6,HH.out.f7,HH.out.f9,HH.out.f10,HH.out.f11,HH.out.f12,HH.out.f13,HH.out.f14,HH.out.f17,HH.out.f18,HH.out.f19,HH.out.f21,HH.out.f22,HH.out.im,HH.out.wv⟩⟩
  ·cases b2 with
   |true=>exact NS hi (by kernel_rfl)
   |false=>
   cases b1 with
   |false=>exact NS hi (by kernel_rfl)
   |true=>
   clear hi aQ;have hu1:=h.f1 rfl;subst hu1;simp only[turOps,f9,nK,Nat.reduceEqDiff,reduceIte,Option.getD_some];refine OS (by rfl) rfl ?_;have HH:=hide h;clear h;go_wp2_with fail;refine(nW.out _).mono ?_;rintro e w2⟨rfl,cL⟩;have HW:=hide (HH.out.wv.below cL);clear cL;go_wp2;exact YM.out _ _ ⟨b0,true,true,b3,b4,b5,b6,b7,b8,b9,b10,b11,b12,b13,b14,b15,b16,b17,b18,b19,b20,b21,b22,_,_,_,_,_,_,_,_,_,_,_,_,_,_,_,_,_,_,_,_,_,_,_,by kernel_rfl,rfl,⟨HH.out.f0,HH.out.f1,fun _=>rfl,HH.out.f3,HH.out.f4,HH.out.f5,HH.out.f6,HH.out.f7,HH.out.f9,HH.out.f10,HH.out.f11,HH.out.f12,HH.out.f13,HH.out.f14,HH.out.f17,HH.out.f18,HH.out.f19,HH.out.f21,HH.out.f22,HH.out.im,HW.out⟩⟩
  ·cases b3 with
   |true=>exact NS hi (by kernel_rfl)
   |false=>
   cases b2 with
   |false=>exact NS hi (by kernel_rfl)
   |true=>
   clear hi aQ;have hu2:=h.f2 rfl;subst hu2;simp only[turOps,f9,nK,Nat.reduceEqDiff,reduceIte,Option.getD_some];refine OS (by rfl) rfl ?_;have HH:=hide h;clear h;go_wp2;exact YM.out _ _ ⟨b0,b1,true,true,b4,b5,b6,b7,b8,b9,b10,b11,b12,b13,b14,b15,b16,b17,b18,b19,b20,b21,b22,_,_,_,_,_,_,_,_,_,_,_,_,_,_,_,_,_,_,_,_,_,_,_,by kernel_rfl,rfl,⟨HH.out.f0,HH.out.f1,HH.out.f2,fun _=>rfl,HH.out.f4,HH.out.f5,HH.out.f6,HH.out.f7,HH.out.f9,HH.out.f10,HH.out.f11,HH.out.f12,HH.out.f13,HH.out.f14,HH.out.f17,HH.out.f18,HH.out.f19,HH.out.f21,HH.out.f22,HH.out.im,HH.out.wv⟩⟩
  ·cases b4 with
   |true=>exact NS hi (by kernel_rfl)
   |false=>
   cases b3 with
   |false=>exact NS hi (by kernel_rfl)
   |true=>
   clear hi aQ;have hu3:=h.f3 rfl;subst hu3;simp only[turOps,f9,nK,Nat.reduceEqDiff,reduceIte,Option.getD_some];refine OS (by rfl) rfl ?_;have HH:=hide h;clear h;go_wp2;exact YM.out _ _ ⟨b0,b1,b2,true,true,b5,b6,b7,b8,b9,b10,b11,b12,b13,b14,b15,b16,b17,b18,b19,b20,b21,b22,_,_,_,_,_,_,_,_,_,_,_,_,_,_,_,_,_,_,_,_,_,_,_,by kernel_rfl,rfl,⟨HH.out.f0,HH.out.f1,HH.out.f2,HH.out.f3,fun _=>rfl,HH.out.f5,HH.out.f6,HH.out.f7,HH.out.f9,HH.out.f10,HH.out.f11,HH.out.f12,HH.out.f13,HH.out.f14,HH.out.f17,HH.out.f18,HH.out.f19,HH.out.f21,HH.out.f22,HH.out.im,HH.out.wv⟩⟩
  ·cases b5 with
   |true=>exact NS hi (by kernel_rfl)
   |false=>
   clear hi aQ;simp only[turOps,f9,nK,Nat.reduceEqDiff,reduceIte,Option.getD_some];refine OS (by rfl) rfl ?_;have HH:=hide h;clear h;go_wp2;exact YM.out _ _ ⟨b0,b1,b2,b3,b4,true,b6,b7,b8,b9,b10,b11,b12,b13,b14,b15,b16,b17,b18,b19,b20,b21,b22,_,_,_,_,_,_,_,_,_,_,_,_,_,_,_,_,_,_,_,_,_,_,_,by kernel_rfl,rfl,⟨HH.out.f0,HH.out.f1,HH.out.f2,HH.out.f3,HH.out.f4,fun _=>rfl,HH.out.f6,HH.out.f7,HH.out.f9,HH.out.f10,HH.out.f11,HH.out.f12,HH.out.f13,HH.out.f14,HH.out.f17,HH.out.f18,HH.out.f19,HH.out.f21,HH.out.f22,HH.out.im,HH.out.wv⟩⟩
  ·cases b6 with
   |true=>exact NS hi (by kernel_rfl)
   |false=>
   cases b5 with
   |false=>exact NS hi (by kernel_rfl)
   |true=>
   clear hi aQ;have hu5:=h.f5 rfl;subst hu5;simp only[turOps,f9,nK,Nat.reduceEqDiff,reduceIte,Option.getD_some];refine OS (by rfl) rfl ?_;have HH:=hide h;clear h;go_wp2;exact YM.out _ _ ⟨b0,b1,b2,b3,b4,true,true,b7,b8,b9,b10,b11,b12,b13,b14,b15,b16,b17,b18,b19,b20,b21,b22,_,_,_,_,_,_,_,_,_,_,_,_,_,_,_,_,_,_,_,_,_,_,_,by kernel_rfl,rfl,⟨HH.out.f0,HH.out.f1,HH.out.f2,HH.out.f3,HH.out.f4,HH.out.f5,fun _=>rfl,HH.out.f7,HH.out.f9,HH.out.f10,HH.out.f11,HH.out.f12,HH.out.f13,HH.out.f14,HH.out.f17,HH.out.f18,HH.out.f19,HH.out.f21,HH.out.f22,HH.out.im,HH.out.wv⟩⟩
  ·cases b7 with
   |true=>exact NS hi (by kernel_rfl)
   |false=>
   cases b6 with
   |false=>exact NS hi (by kernel_rfl)
   |true=>
   clear hi aQ;have hu6:=h.f6 rfl;subst hu6;simp only[turOps,f9,nK,Nat.reduceEqDiff,reduceIte,Option.getD_some];refine OS (by rfl) rfl ?_;have HH:=hide h;clear h;go_wp2;exact YM.out _ _ ⟨b0,b1,b2,b3,b4,b5,true,true,b8,b9,b10,b11,b12,b13,b14,b15,b16,b17,b18,b19,b20,b21,b22,_,_,_,_,_,_,_,_,_,_,_,_,_,_,_,_,_,_,_,_,_,_,_,by kernel_rfl,rfl,⟨HH.out.f0,HH.out.f1,HH.out.f2,HH.out.f3,HH.out.f4,HH.out.f5,HH.out.f6,fun _=>rfl,HH.out.f9,HH.out.f10,HH.out.f11,HH.out.f12,HH.out.f13,HH.out.f14,HH.out.f17,HH.out.f18,HH.out.f19,HH.out.f21,HH.out.f22,HH.out.im,HH.out.wv⟩⟩
  ·cases b8 with
   |true=>exact NS hi (by kernel_rfl)
   |false=>
   cases b7 with
   |false=>exact NS hi (by kernel_rfl)
   |true=>
   clear hi aQ;have hu7:=h.f7 rfl;subst hu7;simp only[turOps,f9,nK,Nat.reduceEqDiff,reduceIte,Option.getD_some];refine OS (by rfl) rfl ?_;have HH:=hide h;clear h;go_wp2;exact YM.out _ _ ⟨b0,b1,b2,b3,b4,b5,b6,true,true,b9,b10,b11,b12,b13,b14,b15,b16,b17,b18,b19,b20,b21,b22,_,_,_,_,_,_,_,_,_,_,_,_,_,_,_,_,_,_,_,_,_,_,_,by kernel_rfl,rfl,⟨HH.out.f0,HH.out.f1,HH.out.f2,HH.out.f3,HH.out.f4,HH.out.f5,HH.out.f6,HH.out.f7,HH.out.f9,HH.out.f10,HH.out.f11,HH.out.f12,HH.out.f13,HH.out.f14,HH.out.f17,HH.out.f18,HH.out.f19,HH.out.f21,HH.out.f22,HH.out.im,HH.out.wv.byte⟩⟩
  ·cases b9 with
   |true=>exact NS hi (by kernel_rfl)
   |false=>
   cases b8 with
   |false=>exact NS hi (by kernel_rfl)
   |true=>
   clear hi aQ;simp only[turOps,f9,nK,Nat.reduceEqDiff,reduceIte,Option.getD_some];refine OS (by rfl) rfl ?_;have hwv:=h.wv;have HH:=hide h;clear h;obtain⟨B,hub,Jw⟩:=hwv.conv;subst hub;clear hwv;go_wp2;exact YM.out _ _ ⟨b0,b1,b2,b3,b4,b5,b6,b7,true,true,b10,b11,b12,b13,b14,b15,b16,b17,b18,b19,b20,b21,b22,_,_,_,_,_,_,_,_,_,_,_,_,_,_,_,_,_,_,_,_,_,_,_,by kernel_rfl,rfl,⟨HH.out.f0,HH.out.f1,HH.out.f2,HH.out.f3,HH.out.f4,HH.out.f5,HH.out.f6,HH.out.f7,fun _=>rfl,HH.out.f10,HH.out.f11,HH.out.f12,HH.out.f13,HH.out.f14,HH.out.f17,HH.out.f18,HH.out.f19,HH.out.f21,HH.out.f22,HH.out.im,HH.out.wv⟩⟩
  ·cases b10 with
   |true=>exact NS hi (by kernel_rfl)
   |false=>
   cases b4 with
   |false=>exact NS hi (by kernel_rfl)
   |true=>
   cases b9 with
   |false=>exact NS hi (by kernel_rfl)
   |true=>
   clear hi aQ;have hu4:=h.f4 rfl;have hu9:=h.f9 rfl;subst hu4;subst hu9;simp only[turOps,f9,nK,Nat.reduceEqDiff,reduceIte,Option.getD_some];refine OS (by rfl) rfl ?_;have HH:=hide h;clear h;go_wp2;exact YM.out _ _ ⟨b0,b1,b2,b3,true,b5,b6,b7,b8,true,true,b11,b12,b13,b14,b15,b16,b17,b18,b19,b20,b21,b22,_,_,_,_,_,_,_,_,_,_,_,_,_,_,_,_,_,_,_,_,_,_,_,by kernel_rfl,rfl,⟨HH.out.f0,HH.out.f1,HH.out.f2,HH.out.f3,HH.out.f4,HH.out.f5,HH.out.f6,HH.out.f7,HH.out.f9,fun _=>rfl,HH.out.f11,HH.out.f12,HH.out.f13,HH.out.f14,HH.out.f17,HH.out.f18,HH.out.f19,HH.out.f21,HH.out.f22,HH.out.im,HH.out.wv⟩⟩
  ·cases b11 with
   |true=>exact NS hi (by kernel_rfl)
   |false=>
   cases b10 with
   |false=>exact NS hi (by kernel_rfl)
   |true=>
   clear hi aQ;have hu10:=h.f10 rfl;subst hu10;simp only[turOps,f9,nK,Nat.reduceEqDiff,reduceIte,Option.getD_some];refine OS (by rfl) rfl ?_;have HH:=hide h;clear h;go_wp2;exact YM.out _ _ ⟨b0,b1,b2,b3,b4,b5,b6,b7,b8,b9,true,true,b12,b13,b14,b15,b16,b17,b18,b19,b20,b21,b22,_,_,_,_,_,_,_,_,_,_,_,_,_,_,_,_,_,_,_,_,_,_,_,by kernel_rfl,rfl,⟨HH.out.f0,HH.out.f1,HH.out.f2,HH.out.f3,HH.out.f4,HH.out.f5,HH.out.f6,HH.out.f7,HH.out.f9,HH.out.f10,fun _=>rfl,HH.out.f12,HH.out.f13,HH.out.f14,HH.out.f17,HH.out.f18,HH.out.f19,HH.out.f21,HH.out.f22,HH.out.im,HH.out.wv⟩⟩
  ·cases b12 with
   |true=>exact NS hi (by kernel_rfl)
   |false=>
   clear hi aQ;simp only[turOps,f9,nK,Nat.reduceEqDiff,reduceIte,Option.getD_some];refine OS (by rfl) rfl ?_;have HH:=hide h;clear h;go_wp2;exact YM.out _ _ ⟨b0,b1,b2,b3,b4,b5,b6,b7,b8,b9,b10,b11,true,b13,b14,b15,b16,b17,b18,b19,b20,b21,b22,_,_,_,_,_,_,_,_,_,_,_,_,_,_,_,_,_,_,_,_,_,_,_,by kernel_rfl,rfl,⟨HH.out.f0,HH.out.f1,HH.out.f2,HH.out.f3,HH.out.f4,HH.out.f5,HH.out.f6,HH.out.f7,HH.out.f9,HH.out.f10,HH.out.f11,fun _=>rfl,HH.out.f13,HH.out.f14,HH.out.f17,HH.out.f18,HH.out.f19,HH.out.f21,HH.out.f22,HH.out.im,HH.out.wv⟩⟩
  ·cases b13 with
   |true=>exact NS hi (by kernel_rfl)
   |false=>
   cases b12 with
   |false=>exact NS hi (by kernel_rfl)
   |true=>
   cases b2 with
   |false=>exact NS hi (by kernel_rfl)
   |true=>
   clear hi aQ;have hu12:=h.f12 rfl;have hu2:=h.f2 rfl;subst hu12;subst hu2;simp only[turOps,f9,nK,Nat.reduceEqDiff,reduceIte,Option.getD_some];refine OS (by rfl) rfl ?_;have HH:=hide h;clear h;go_wp2_with fail;refine(nW.out _).mono ?_;rintro e w2⟨rfl,cL⟩;have HW:=hide (HH.out.wv.below cL);clear cL;go_wp2;exact YM.out _ _ ⟨b0,b1,true,b3,b4,b5,b6,b7,b8,b9,b10,b11,true,true,b14,b15,b16,b17,b18,b19,b20,b21,b22,_,_,_,_,_,_,_,_,_,_,_,_,_,_,_,_,_,_,_,_,_,_,_,by kernel_rfl,rfl,⟨HH.out.f0,HH.out.f1,HH.out.f2,HH.out.f3,HH.out.f4,HH.out.f5,HH.out.f6,HH.out.f7,HH.out.f9,HH.out.f10,HH.out.f11,HH.out.f12,fun _=>rfl,HH.out.f14,HH.out.f17,HH.out.f18,HH.out.f19,HH.out.f21,HH.out.f22,HH.out.im,HW.out⟩⟩
  ·cases b14 with
   |true=>exact NS hi (by kernel_rfl)
   |false=>
   cases b11 with
   |false=>exact NS hi (by kernel_rfl)
   |true=>
   cases b13 with
   |false=>exact NS hi (by kernel_rfl)
   |true=>
   clear hi aQ;have hu11:=h.f11 rfl;have hu13:=h.f13 rfl;subst hu11;subst hu13;simp only[turOps,f9,nK,Nat.reduceEqDiff,reduceIte,Option.getD_some];refine OS (by rfl) rfl ?_;have HH:=hide h;clear h;go_wp2;rw[pS.out];exact YM.out _ _ ⟨b0,b1,b2,b3,b4,b5,b6,b7,b8,b9,b10,true,b12,true,true,b15,b16,b17,b18,b19,b20,b21,b22,_,_,_,_,_,_,_,_,_,_,_,_,_,_,_,_,_,_,_,_,_,_,_,by kernel_rfl,rfl,⟨HH.out.f0,HH.out.f1,HH.out.f2,HH.out.f3,HH.out.f4,HH.out.f5,HH.out.f6,HH.out.f7,HH.out.f9,HH.out.f10,HH.out.f11,HH.out.f12,HH.out.f13,fun _=>rfl,HH.out.f17,HH.out.f18,HH.out.f19,HH.out.f21,HH.out.f22,HH.out.im,HH.out.wv⟩⟩
  ·cases b15 with
   |true=>exact NS hi (by kernel_rfl)
   |false=>
   cases b0 with
   |false=>exact NS hi (by kernel_rfl)
   |true=>
   cases b14 with
   |false=>exact NS hi (by kernel_rfl)
   |true=>
   cases b13 with
   |false=>exact NS hi (by kernel_rfl)
   |true=>
   clear hi aQ;have hu0:=h.f0 rfl;have hu14:=h.f14 rfl;have hu13:=h.f13 rfl;subst hu0;subst hu14;subst hu13;simp only[turOps,f9,nK,Nat.reduceEqDiff,reduceIte,Option.getD_some];refine OS (by rfl) rfl ?_;have hwv:=h.wv;have HH:=hide h;clear h;cases b21 with
   |true=>exact absurd (HH.out.im rfl) (by decide)
   |false=>
   go_wp2_with fail;refine(hwv.say (t:=⟨sub.toArray⟩) HGD.out mV.out HN.out).mono ?_;rintro e w2⟨v,rfl,Pt⟩;have HW:=hide Pt;clear Pt hwv;go_wp2;exact YM.out _ _ ⟨true,b1,b2,b3,b4,b5,b6,b7,b8,b9,b10,b11,b12,true,true,true,b16,b17,b18,b19,b20,false,b22,_,_,_,_,_,_,_,_,_,_,_,_,_,_,_,_,_,_,_,_,_,_,_,by kernel_rfl,rfl,⟨HH.out.f0,HH.out.f1,HH.out.f2,HH.out.f3,HH.out.f4,HH.out.f5,HH.out.f6,HH.out.f7,HH.out.f9,HH.out.f10,HH.out.f11,HH.out.f12,HH.out.f13,HH.out.f14,HH.out.f17,HH.out.f18,HH.out.f19,HH.out.f21,HH.out.f22,fun _=>rfl,HW.out⟩⟩
  ·cases b16 with
   |true=>exact NS hi (by kernel_rfl)
   |false=>
   clear hi aQ;simp only[turOps,f9,nK,Nat.reduceEqDiff,reduceIte,Option.getD_some];refine OS (by rfl) rfl ?_;have HH:=hide h;clear h;go_wp2;exact YM.out _ _ ⟨b0,b1,b2,b3,b4,b5,b6,b7,b8,b9,b10,b11,b12,b13,b14,b15,true,b17,b18,b19,b20,b21,b22,_,_,_,_,_,_,_,_,_,_,_,_,_,_,_,_,_,_,_,_,_,_,_,by kernel_rfl,rfl,⟨HH.out.f0,HH.out.f1,HH.out.f2,HH.out.f3,HH.out.f4,HH.out.f5,HH.out.f6,HH.out.f7,HH.out.f9,HH.out.f10,HH.out.f11,HH.out.f12,HH.out.f13,HH.out.f14,HH.out.f17,HH.out.f18,HH.out.f19,HH.out.f21,HH.out.f22,HH.out.im,HH.out.wv.ak⟩⟩
  ·cases b17 with
   |true=>exact NS hi (by kernel_rfl)
   |false=>
   clear hi aQ;simp only[turOps,f9,nK,Nat.reduceEqDiff,reduceIte,Option.getD_some];refine OS (by rfl) rfl ?_;have HH:=hide h;clear h;go_wp2;exact YM.out _ _ ⟨b0,b1,b2,b3,b4,b5,b6,b7,b8,b9,b10,b11,b12,b13,b14,b15,b16,true,b18,b19,b20,b21,b22,_,_,_,_,_,_,_,_,_,_,_,_,_,_,_,_,_,_,_,_,_,_,_,by kernel_rfl,rfl,⟨HH.out.f0,HH.out.f1,HH.out.f2,HH.out.f3,HH.out.f4,HH.out.f5,HH.out.f6,HH.out.f7,HH.out.f9,HH.out.f10,HH.out.f11,HH.out.f12,HH.out.f13,HH.out.f14,fun _=>rfl,HH.out.f18,HH.out.f19,HH.out.f21,HH.out.f22,HH.out.im,HH.out.wv⟩⟩
  ·cases b18 with
   |true=>exact NS hi (by kernel_rfl)
   |false=>
   cases b17 with
   |false=>exact NS hi (by kernel_rfl)
   |true=>
   cases b15 with
   |false=>exact NS hi (by kernel_rfl)
   |true=>
   clear hi aQ;have hu17:=h.f17 rfl;subst hu17;simp only[turOps,f9,nK,Nat.reduceEqDiff,reduceIte,Option.getD_some];refine OS (by rfl) rfl ?_;have HH:=hide h;clear h;go_wp2_with fail;refine(nW.out _).mono ?_;rintro e w2⟨rfl,cL⟩;have HW:=hide (HH.out.wv.below cL);clear cL;go_wp2;exact YM.out _ _ ⟨b0,b1,b2,b3,b4,b5,b6,b7,b8,b9,b10,b11,b12,b13,b14,true,b16,true,true,b19,b20,b21,b22,_,_,_,_,_,_,_,_,_,_,_,_,_,_,_,_,_,_,_,_,_,_,_,by kernel_rfl,rfl,⟨HH.out.f0,HH.out.f1,HH.out.f2,HH.out.f3,HH.out.f4,HH.out.f5,HH.out.f6,HH.out.f7,HH.out.f9,HH.out.f10,HH.out.f11,HH.out.f12,HH.out.f13,HH.out.f14,HH.out.f17,fun _=>rfl,HH.out.f19,HH.out.f21,HH.out.f22,HH.out.im,HW.out⟩⟩
  ·cases b19 with
   |true=>exact NS hi (by kernel_rfl)
   |false=>
   cases b18 with
   |false=>exact NS hi (by kernel_rfl)
   |true=>
   clear hi aQ;have hu18:=h.f18 rfl;subst hu18;simp only[turOps,f9,nK,Nat.reduceEqDiff,reduceIte,Option.getD_some];refine OS (by rfl) rfl ?_;have HH:=hide h;clear h;go_wp2;rw[mG.out];exact YM.out _ _ ⟨b0,b1,b2,b3,b4,b5,b6,b7,b8,b9,b10,b11,b12,b13,b14,b15,b16,b17,true,true,b20,b21,b22,_,_,_,_,_,_,_,_,_,_,_,_,_,_,_,_,_,_,_,_,_,_,_,by kernel_rfl,rfl,⟨HH.out.f0,HH.out.f1,HH.out.f2,HH.out.f3,HH.out.f4,HH.out.f5,HH.out.f6,HH.out.f7,HH.out.f9,HH.out.f10,HH.out.f11,HH.out.f12,HH.out.f13,HH.out.f14,HH.out.f17,HH.out.f18,fun _=>rfl,HH.out.f21,HH.out.f22,HH.out.im,HH.out.wv⟩⟩
  ·cases b20 with
   |true=>exact NS hi (by kernel_rfl)
   |false=>
   cases b19 with
   |false=>exact NS hi (by kernel_rfl)
   |true=>
   clear hi aQ;have hu19:=h.f19 rfl;subst hu19;simp only[turOps,f9,nK,Nat.reduceEqDiff,reduceIte,Option.getD_some];refine OS (by rfl) rfl ?_;have HH:=hide h;clear h;go_wp2;exact YM.out _ _ ⟨b0,b1,b2,b3,b4,b5,b6,b7,b8,b9,b10,b11,b12,b13,b14,b15,b16,b17,b18,true,true,b21,b22,_,_,_,_,_,_,_,_,_,_,_,_,_,_,_,_,_,_,_,_,_,_,_,by kernel_rfl,rfl,⟨HH.out.f0,HH.out.f1,HH.out.f2,HH.out.f3,HH.out.f4,HH.out.f5,HH.out.f6,HH.out.f7,HH.out.f9,HH.out.f10,HH.out.f11,HH.out.f12,HH.out.f13,HH.out.f14,HH.out.f17,HH.out.f18,HH.out.f19,HH.out.f21,HH.out.f22,HH.out.im,HH.out.wv.texts⟩⟩
  ·cases b21 with
   |true=>exact NS hi (by kernel_rfl)
   |false=>
   cases b15 with
   |false=>exact NS hi (by kernel_rfl)
   |true=>
   cases b16 with
   |false=>exact NS hi (by kernel_rfl)
   |true=>
   cases b20 with
   |false=>exact NS hi (by kernel_rfl)
   |true=>
   cases b18 with
   |false=>exact NS hi (by kernel_rfl)
   |true=>
   clear hi aQ;have hu18:=h.f18 rfl;subst hu18;simp only[turOps,f9,nK,Nat.reduceEqDiff,reduceIte,Option.getD_some];refine OS (by rfl) rfl ?_;have hwv:=h.wv;have HH:=hide h;clear h;go_wp2_with fail;refine(hwv.is (one_le HAC.out) (by show 1<=1000;omega)).mono ?_;rintro e w2⟨rfl,Pt⟩;have HW:=hide Pt;clear Pt hwv;go_wp2;exact YM.out _ _ ⟨b0,b1,b2,b3,b4,b5,b6,b7,b8,b9,b10,b11,b12,b13,b14,true,true,b17,true,b19,true,true,b22,_,_,_,_,_,_,_,_,_,_,_,_,_,_,_,_,_,_,_,_,_,_,_,by kernel_rfl,rfl,⟨HH.out.f0,HH.out.f1,HH.out.f2,HH.out.f3,HH.out.f4,HH.out.f5,HH.out.f6,HH.out.f7,HH.out.f9,HH.out.f10,HH.out.f11,HH.out.f12,HH.out.f13,HH.out.f14,HH.out.f17,HH.out.f18,HH.out.f19,fun _=>rfl,HH.out.f22,fun _=>rfl,HW.out⟩⟩
  ·cases b22 with
   |true=>exact NS hi (by kernel_rfl)
   |false=>
   cases b21 with
   |false=>exact NS hi (by kernel_rfl)
   |true=>
   clear hi aQ;have hu21:=h.f21 rfl;subst hu21;simp only[turOps,f9,nK,Nat.reduceEqDiff,reduceIte,Option.getD_some];refine OS (by rfl) rfl ?_;have HH:=hide h;clear h;go_wp2;exact YM.out _ _ ⟨b0,b1,b2,b3,b4,b5,b6,b7,b8,b9,b10,b11,b12,b13,b14,b15,b16,b17,b18,b19,b20,true,true,_,_,_,_,_,_,_,_,_,_,_,_,_,_,_,_,_,_,_,_,_,_,_,by kernel_rfl,rfl,⟨HH.out.f0,HH.out.f1,HH.out.f2,HH.out.f3,HH.out.f4,HH.out.f5,HH.out.f6,HH.out.f7,HH.out.f9,HH.out.f10,HH.out.f11,HH.out.f12,HH.out.f13,HH.out.f14,HH.out.f17,HH.out.f18,HH.out.f19,HH.out.f21,fun _=>rfl,HH.out.im,HH.out.wv⟩⟩
