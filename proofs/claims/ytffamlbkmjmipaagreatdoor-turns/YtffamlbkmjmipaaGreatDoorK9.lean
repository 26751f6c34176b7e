import Derived.Test.YtffamlbkmjmipaaGreatDoorK8
set_option maxHeartbeats 8000000
set_option maxRecDepth 100000
namespace Go.Proofs.YtffamlbkmjmipaaGreatDoor
open _root_.Go.Proofs.Tryz
namespace Kp
open Go.RowKit aD Mc Mr Lw bA
attribute [local go_sem] aP.ae aP.ah
theorem reg26_size:(turOps 26).size=18:=by kernel_rfl
structure reg26F{w:World}(P:iC w.heap.size w)(wp:Nat)(s s':St)(fk run:Bs)(t:Nat)(b0 b1 b2 b3 b4 b5 b6 b7 b8 b9 b10 b11 b12 b13 b14 b15 b16 b17:Bool)(u86 u87 u88 u89 u90 u91 u92 u93 u94 u95 u96 u97 u98 u99 u100 u101 u102 u103:Value)(w1:World):Prop where
 f0:b0=true->u86= .pointer (some ⟨wp,0,none⟩)
 f3:b3=true->u89= .string ⟨fk.toArray⟩
 f4:b4=true->u90= .string (⟨#[114,117,110,32]⟩++⟨fk.toArray⟩)
 f5:b5=true->u91= .string ((⟨#[114,117,110,32]⟩++⟨fk.toArray⟩)++⟨#[32,49,32]⟩)
 f6:b6=true->u92= .int .i64 (t:Int)
 f7:b7=true->u93= .int .i64 (97+(t:Int))
 f8:b8=true->u94= .int .u8 (97+(t:Int))
 f10:b10=true->u96= .string ⟨#[97+UInt8.ofNat t]⟩
 f11:b11=true->u97= .string (((⟨#[114,117,110,32]⟩++⟨fk.toArray⟩)++⟨#[32,49,32]⟩)++⟨#[97+UInt8.ofNat t]⟩)
 f12:b12=true->u98= .string ((((⟨#[114,117,110,32]⟩++⟨fk.toArray⟩)++⟨#[32,49,32]⟩)++⟨#[97+UInt8.ofNat t]⟩)++⟨#[32,112]⟩)
 f13:b13=true->u99= .string ⟨fk.toArray⟩
 f14:b14=true->u100= .string ⟨run.toArray⟩
 f16:b16=true->u102= .bool true
 f17:b17=true->u103= .bool false
 im:b16=true->b1=true
 wv:Wv P wp s s' [(2,run)] (97+(t:Int)) b9 b2 b15 b1 b16 u95 u88 u101 u87 w1
theorem reg26{w:World}(P:iC w.heap.size w)(wp:Nat)(s s':St)(fk run:Bs)(t:Nat)(v0 v1 v2 v3 v4 v6 v7 v8 v9 v10 v13 v14 v15 v16 v17 v18 v19 v20 v21 v22 v23 v24 v25 v26 v27 v28 v29 v30 v31 v32 v33 v34 v35 v36 v37 v38 v39 v40 v41 v42 v43 v44 v45 v46 v47 v48 v49 v50 v51 v52 v53 v54 v55 v56 v57 v58 v59 v60 v61 v62 v63 v64 v65 v66 v67 v68 v69 v70 v71 v72 v73 v74 v75 v76 v77 v78 v79 v80 v81 v82 v83 v84 v85 v104 v105 v106 v107 v108 v109 v110 v111 v112 v113 v114 v115 v116 v117 v118 v119 v120 v121 v122 v123 v124 v125 v126 v127 v128 v129 v130 v131 v132 v133 v134 v135 v136 v137 v138 v139 v140 v141 v142 v143 v144 v145 v146 v147 v148 v149 v150 y86 y87 y88 y89 y90 y91 y92 y93 y94 y95 y96 y97 y98 y99 y100 y101 y102 y103:Value)(wr:World)(Q:Exit->Act->World->Prop){n:Nat}(hk:ie P wp n s wr)(ra:Stp s ⟨.tell 2 dQ, [(2,run)]⟩ s')(hn:n<=100000)(ht:t<=5)(Jz:fk.length<=20)(Jn:run.length<=1048576)(hT1:(⟨#[114,117,110,32]⟩:ByteArray)++⟨fk.toArray⟩++⟨#[32,49,32]⟩++⟨#[97+UInt8.ofNat t]⟩++⟨#[32,112]⟩++⟨fk.toArray⟩=⟨run.toArray⟩)(hQ: ∀(u86 u87 u88 u89 u90 u91 u92 u93 u94 u95 u96 u97 u98 u99 u100 u101 u102:Value) (w1:World),ie P wp (n+1) s' w1->Q .normal ⟨#[v0,v1,v2,v3,v4, .pointer (some ⟨wp,0,none⟩),v6,v7,v8,v9,v10, .int .i64 (t:Int), .string ⟨fk.toArray⟩,v13,v14,v15,v16,v17,v18,v19,v20,v21,v22,v23,v24,v25,v26,v27,v28,v29,v30,v31,v32,v33,v34,v35,v36,v37,v38,v39,v40,v41,v42,v43,v44,v45,v46,v47,v48,v49,v50,v51,v52,v53,v54,v55,v56,v57,v58,v59,v60,v61,v62,v63,v64,v65,v66,v67,v68,v69,v70,v71,v72,v73,v74,v75,v76,v77,v78,v79,v80,v81,v82,v83,v84,v85,u86,u87,u88,u89,u90,u91,u92,u93,u94,u95,u96,u97,u98,u99,u100,u101,u102,(.bool false),v104,v105,v106,v107,v108,v109,v110,v111,v112,v113,v114,v115,v116,v117,v118,v119,v120,v121,v122,v123,v124,v125,v126,v127,v128,v129,v130,v131,v132,v133,v134,v135,v136,v137,v138,v139,v140,v141,v142,v143,v144,v145,v146,v147,v148,v149,v150], []⟩ w1):(Code.region 26 (turOps 26) true).wp prog Q ⟨#[v0,v1,v2,v3,v4, .pointer (some ⟨wp,0,none⟩),v6,v7,v8,v9,v10, .int .i64 (t:Int), .string ⟨fk.toArray⟩,v13,v14,v15,v16,v17,v18,v19,v20,v21,v22,v23,v24,v25,v26,v27,v28,v29,v30,v31,v32,v33,v34,v35,v36,v37,v38,v39,v40,v41,v42,v43,v44,v45,v46,v47,v48,v49,v50,v51,v52,v53,v54,v55,v56,v57,v58,v59,v60,v61,v62,v63,v64,v65,v66,v67,v68,v69,v70,v71,v72,v73,v74,v75,v76,v77,v78,v79,v80,v81,v82,v83,v84,v85,y86,y87,y88,y89,y90,y91,y92,y93,y94,y95,y96,y97,y98,y99,y100,y101,y102,y103,v104,v105,v106,v107,v108,v109,v110,v111,v112,v113,v114,v115,v116,v117,v118,v119,v120,v121,v122,v123,v124,v125,v126,v127,v128,v129,v130,v131,v132,v133,v134,v135,v136,v137,v138,v139,v140,v141,v142,v143,v144,v145,v146,v147,v148,v149,v150], []⟩ wr:=by
 have HGS:=hide (ra.good hk.1);have HGD:=hide hk.1;have mV:=hide ra;have pS:=hide hT1;have HAC:=hide Jn;have HN:=hide hn;have fZ:IntKind.i64.wrap (97+(t:Int))=97+(t:Int):=by rw[IntKind.wrap_i64];omega
 have Pu:IntKind.u8.wrap (97+(t:Int))=97+(t:Int):=by simp[IntKind.wrap,IntKind.bits,IntKind.signed];omega
 clear hT1 Jn hn ra;refine wp_region_any (by kernel_rfl) ?_;change wpAny _ _ _ _ _ _ _ (World.drew _);refine wT (fun l a w1=> ∃(b0 b1 b2 b3 b4 b5 b6 b7 b8 b9 b10 b11 b12 b13 b14 b15 b16 b17:Bool) (u86 u87 u88 u89 u90 u91 u92 u93 u94 u95 u96 u97 u98 u99 u100 u101 u102 u103:Value),l= #[b0,b1,b2,b3,b4,b5,b6,b7,b8,b9,b10,b11,b12,b13,b14,b15,b16,b17]∧a=⟨#[v0,v1,v2,v3,v4, .pointer (some ⟨wp,0,none⟩),v6,v7,v8,v9,v10, .int .i64 (t:Int), .string ⟨fk.toArray⟩,v13,v14,v15,v16,v17,v18,v19,v20,v21,v22,v23,v24,v25,v26,v27,v28,v29,v30,v31,v32,v33,v34,v35,v36,v37,v38,v39,v40,v41,v42,v43,v44,v45,v46,v47,v48,v49,v50,v51,v52,v53,v54,v55,v56,v57,v58,v59,v60,v61,v62,v63,v64,v65,v66,v67,v68,v69,v70,v71,v72,v73,v74,v75,v76,v77,v78,v79,v80,v81,v82,v83,v84,v85,u86,u87,u88,u89,u90,u91,u92,u93,u94,u95,u96,u97,u98,u99,u100,u101,u102,u103,v104,v105,v106,v107,v108,v109,v110,v111,v112,v113,v114,v115,v116,v117,v118,v119,v120,v121,v122,v123,v124,v125,v126,v127,v128,v129,v130,v131,v132,v133,v134,v135,v136,v137,v138,v139,v140,v141,v142,v143,v144,v145,v146,v147,v148,v149,v150], []⟩∧reg26F P wp s s' fk run t b0 b1 b2 b3 b4 b5 b6 b7 b8 b9 b10 b11 b12 b13 b14 b15 b16 b17 u86 u87 u88 u89 u90 u91 u92 u93 u94 u95 u96 u97 u98 u99 u100 u101 u102 u103 w1) ?_ ?_ _ _ _ _ ?_ ?_;rotate_left
 ·rintro l a w1⟨b0,b1,b2,b3,b4,b5,b6,b7,b8,b9,b10,b11,b12,b13,b14,b15,b16,b17,u86,u87,u88,u89,u90,u91,u92,u93,u94,u95,u96,u97,u98,u99,u100,u101,u102,u103,rfl,rfl,h⟩ hr;have e0:b0=true:=by
   cases b0 with
   |true=>rfl
   |false=>exact absurd (N5 (i:=0) (ops:=turOps 26) (by rw[reg26_size];omega) (by kernel_rfl)) (by rw[hr];simp)
  subst e0;have e1:b1=true:=by
   cases b1 with
   |true=>rfl
   |false=>exact absurd (N5 (i:=1) (ops:=turOps 26) (by rw[reg26_size];omega) (by kernel_rfl)) (by rw[hr];simp)
  subst e1;have e2:b2=true:=by
   cases b2 with
   |true=>rfl
   |false=>exact absurd (N5 (i:=2) (ops:=turOps 26) (by rw[reg26_size];omega) (by kernel_rfl)) (by rw[hr];simp)
  subst e2;have e3:b3=true:=by
   cases b3 with
   |true=>rfl
   |false=>exact absurd (N5 (i:=3) (ops:=turOps 26) (by rw[reg26_size];omega) (by kernel_rfl)) (by rw[hr];simp)
  subst e3;have e4:b4=true:=by
   cases b4 with
   |true=>rfl
   |false=>exact absurd (N5 (i:=4) (ops:=turOps 26) (by rw[reg26_size];omega) (by kernel_rfl)) (by rw[hr];simp)
  subst e4;have e5:b5=true:=by
   cases b5 with
   |true=>rfl
   |false=>exact absurd (N5 (i:=5) (ops:=turOps 26) (by rw[reg26_size];omega) (by kernel_rfl)) (by rw[hr];simp)
  subst e5;have e6:b6=true:=by
   cases b6 with
   |true=>rfl
   |false=>exact absurd (N5 (i:=6) (ops:=turOps 26) (by rw[reg26_size];omega) (by kernel_rfl)) (by rw[hr];simp)
  subst e6;have e7:b7=true:=by
   cases b7 with
   |true=>rfl
   |false=>exact absurd (N5 (i:=7) (ops:=turOps 26) (by rw[reg26_size];omega) (by kernel_rfl)) (by rw[hr];simp)
  subst e7;have e8:b8=true:=by
   cases b8 with
   |true=>rfl
   |false=>exact absurd (N5 (i:=8) (ops:=turOps 26) (by rw[reg26_size];omega) (by kernel_rfl)) (by rw[hr];simp)
  subst e8;have e9:b9=true:=by
   cases b9 with
   |true=>rfl
   |false=>exact absurd (N5 (i:=9) (ops:=turOps 26) (by rw[reg26_size];omega) (by kernel_rfl)) (by rw[hr];simp)
  subst e9;have e10:b10=true:=by
   cases b10 with
   |true=>rfl
   |false=>exact absurd (N5 (i:=10) (ops:=turOps 26) (by rw[reg26_size];omega) (by kernel_rfl)) (by rw[hr];simp)
  subst e10;have e11:b11=true:=by
   cases b11 with
   |true=>rfl
   |false=>exact absurd (N5 (i:=11) (ops:=turOps 26) (by rw[reg26_size];omega) (by kernel_rfl)) (by rw[hr];simp)
  subst e11;have e12:b12=true:=by
   cases b12 with
   |true=>rfl
   |false=>exact absurd (N5 (i:=12) (ops:=turOps 26) (by rw[reg26_size];omega) (by kernel_rfl)) (by rw[hr];simp)
  subst e12;have e13:b13=true:=by
   cases b13 with
   |true=>rfl
   |false=>exact absurd (N5 (i:=13) (ops:=turOps 26) (by rw[reg26_size];omega) (by kernel_rfl)) (by rw[hr];simp)
  subst e13;have e14:b14=true:=by
   cases b14 with
   |true=>rfl
   |false=>exact absurd (N5 (i:=14) (ops:=turOps 26) (by rw[reg26_size];omega) (by kernel_rfl)) (by rw[hr];simp)
  subst e14;have e15:b15=true:=by
   cases b15 with
   |true=>rfl
   |false=>exact absurd (N5 (i:=15) (ops:=turOps 26) (by rw[reg26_size];omega) (by kernel_rfl)) (by rw[hr];simp)
  subst e15;have e16:b16=true:=by
   cases b16 with
   |true=>rfl
   |false=>exact absurd (N5 (i:=16) (ops:=turOps 26) (by rw[reg26_size];omega) (by kernel_rfl)) (by rw[hr];simp)
  subst e16;have e17:b17=true:=by
   cases b17 with
   |true=>rfl
   |false=>exact absurd (N5 (i:=17) (ops:=turOps 26) (by rw[reg26_size];omega) (by kernel_rfl)) (by rw[hr];simp)
  subst e17;have hu:=h.f17 rfl;subst hu;exact hQ _ _ _ _ _ _ _ _ _ _ _ _ _ _ _ _ _ _ (h.wv.fin HGS.out)
 ·exact⟨false,false,false,false,false,false,false,false,false,false,false,false,false,false,false,false,false,false,_,_,_,_,_,_,_,_,_,_,_,_,_,_,_,_,_,_,by kernel_rfl,rfl,⟨nofun,nofun,nofun,nofun,nofun,nofun,nofun,nofun,nofun,nofun,nofun,nofun,nofun,nofun,nofun,Wv.start (hk.below (ar _ _).drew)⟩⟩
 ·exact au Array.countP_le_size (by simp)
 ·rintro i l a w1⟨b0,b1,b2,b3,b4,b5,b6,b7,b8,b9,b10,b11,b12,b13,b14,b15,b16,b17,u86,u87,u88,u89,u90,u91,u92,u93,u94,u95,u96,u97,u98,u99,u100,u101,u102,u103,rfl,rfl,h⟩ hi K hK;have aQ:=(xQ hi).1;rw[reg26_size]at aQ;have YM:=hide hK;clear hK hQ;obtain rfl|rfl|rfl|rfl|rfl|rfl|rfl|rfl|rfl|rfl|rfl|rfl|rfl|rfl|rfl|rfl|rfl|rfl:i=0∨i=1∨i=2∨i=3∨i=4∨i=5∨i=6∨i=7∨i=8∨i=9∨i=10∨i=11∨i=12∨i=13∨i=14∨i=15∨i=16∨i=17:=by omega
  ·cases b0 with
   |true=>exact NS hi (by kernel_rfl)
   |false=>
   clear hi aQ;simp only[turOps,f9,nK,Nat.reduceEqDiff,reduceIte,Option.getD_some];refine OS (by rfl) rfl ?_;have HH:=hide h;clear h;go_wp2;exact YM.out _ _ ⟨true,b1,b2,b3,b4,b5,b6,b7,b8,b9,b10,b11,b12,b13,b14,b15,b16,b17,_,_,_,_,_,_,_,_,_,_,_,_,_,_,_,_,_,_,by kernel_rfl,rfl,⟨fun _=>rfl,HH.out.f3,HH.out.f4,HH.out.f5,HH.out.f6,HH.out.f7,HH.out.f8,HH.out.f10,HH.out.f11,HH.out.f12,HH.out.f13,HH.out.f14,HH.out.f16,HH.out.f17,HH.out.im,HH.out.wv⟩⟩
  ·cases b1 with
   |true=>exact NS hi (by kernel_rfl)
   |false=>
   cases b0 with
   |false=>exact NS hi (by kernel_rfl)
   |true=>
   clear hi aQ;have hu0:=h.f0 rfl;subst hu0;simp only[turOps,f9,nK,Nat.reduceEqDiff,reduceIte,Option.getD_some];refine OS (by rfl) rfl ?_;have hwv:=h.wv;have HH:=hide h;clear h;cases b16 with
   |true=>exact absurd (HH.out.im rfl) (by decide)
   |false=>
   go_wp2_with fail;refine(hwv.say (t:=⟨#[112,117,108,108]⟩) HGD.out mV.out HN.out).mono ?_;rintro e w2⟨v,rfl,Pt⟩;have HW:=hide Pt;clear Pt hwv;go_wp2;exact YM.out _ _ ⟨true,true,b2,b3,b4,b5,b6,b7,b8,b9,b10,b11,b12,b13,b14,b15,false,b17,_,_,_,_,_,_,_,_,_,_,_,_,_,_,_,_,_,_,by kernel_rfl,rfl,⟨HH.out.f0,HH.out.f3,HH.out.f4,HH.out.f5,HH.out.f6,HH.out.f7,HH.out.f8,HH.out.f10,HH.out.f11,HH.out.f12,HH.out.f13,HH.out.f14,HH.out.f16,HH.out.f17,fun _=>rfl,HW.out⟩⟩
  ·cases b2 with
   |true=>exact NS hi (by kernel_rfl)
   |false=>
   clear hi aQ;simp only[turOps,f9,nK,Nat.reduceEqDiff,reduceIte,Option.getD_some];refine OS (by rfl) rfl ?_;have HH:=hide h;clear h;go_wp2;exact YM.out _ _ ⟨b0,b1,true,b3,b4,b5,b6,b7,b8,b9,b10,b11,b12,b13,b14,b15,b16,b17,_,_,_,_,_,_,_,_,_,_,_,_,_,_,_,_,_,_,by kernel_rfl,rfl,⟨HH.out.f0,HH.out.f3,HH.out.f4,HH.out.f5,HH.out.f6,HH.out.f7,HH.out.f8,HH.out.f10,HH.out.f11,HH.out.f12,HH.out.f13,HH.out.f14,HH.out.f16,HH.out.f17,HH.out.im,HH.out.wv.ak⟩⟩
  ·cases b3 with
   |true=>exact NS hi (by kernel_rfl)
   |false=>
   clear hi aQ;simp only[turOps,f9,nK,Nat.reduceEqDiff,reduceIte,Option.getD_some];refine OS (by rfl) rfl ?_;have HH:=hide h;clear h;go_wp2;exact YM.out _ _ ⟨b0,b1,b2,true,b4,b5,b6,b7,b8,b9,b10,b11,b12,b13,b14,b15,b16,b17,_,_,_,_,_,_,_,_,_,_,_,_,_,_,_,_,_,_,by kernel_rfl,rfl,⟨HH.out.f0,fun _=>rfl,HH.out.f4,HH.out.f5,HH.out.f6,HH.out.f7,HH.out.f8,HH.out.f10,HH.out.f11,HH.out.f12,HH.out.f13,HH.out.f14,HH.out.f16,HH.out.f17,HH.out.im,HH.out.wv⟩⟩
  ·cases b4 with
   |true=>exact NS hi (by kernel_rfl)
   |false=>
   cases b3 with
   |false=>exact NS hi (by kernel_rfl)
   |true=>
   clear hi aQ;have hu3:=h.f3 rfl;subst hu3;simp only[turOps,f9,nK,Nat.reduceEqDiff,reduceIte,Option.getD_some];refine OS (by rfl) rfl ?_;have HH:=hide h;clear h;go_wp2;exact YM.out _ _ ⟨b0,b1,b2,true,true,b5,b6,b7,b8,b9,b10,b11,b12,b13,b14,b15,b16,b17,_,_,_,_,_,_,_,_,_,_,_,_,_,_,_,_,_,_,by kernel_rfl,rfl,⟨HH.out.f0,HH.out.f3,fun _=>rfl,HH.out.f5,HH.out.f6,HH.out.f7,HH.out.f8,HH.out.f10,HH.out.f11,HH.out.f12,HH.out.f13,HH.out.f14,HH.out.f16,HH.out.f17,HH.out.im,HH.out.wv⟩⟩
  ·cases b5 with
   |true=>exact NS hi (by kernel_rfl)
   |false=>
   cases b4 with
   |false=>exact NS hi (by kernel_rfl)
   |true=>
   clear hi aQ;have hu4:=h.f4 rfl;subst hu4;simp only[turOps,f9,nK,Nat.reduceEqDiff,reduceIte,Option.getD_some];refine OS (by rfl) rfl ?_;have HH:=hide h;clear h;go_wp2;exact YM.out _ _ ⟨b0,b1,b2,b3,true,true,b6,b7,b8,b9,b10,b11,b12,b13,b14,b15,b16,b17,_,_,_,_,_,_,_,_,_,_,_,_,_,_,_,_,_,_,by kernel_rfl,rfl,⟨HH.out.f0,HH.out.f3,HH.out.f4,fun _=>rfl,HH.out.f6,HH.out.f7,HH.out.f8,HH.out.f10,HH.out.f11,HH.out.f12,HH.out.f13,HH.out.f14,HH.out.f16,HH.out.f17,HH.out.im,HH.out.wv⟩⟩
  ·cases b6 with
   |true=>exact NS hi (by kernel_rfl)
   |false=>
   clear hi aQ;simp only[turOps,f9,nK,Nat.reduceEqDiff,reduceIte,Option.getD_some];refine OS (by rfl) rfl ?_;have HH:=hide h;clear h;go_wp2;exact YM.out _ _ ⟨b0,b1,b2,b3,b4,b5,true,b7,b8,b9,b10,b11,b12,b13,b14,b15,b16,b17,_,_,_,_,_,_,_,_,_,_,_,_,_,_,_,_,_,_,by kernel_rfl,rfl,⟨HH.out.f0,HH.out.f3,HH.out.f4,HH.out.f5,fun _=>rfl,HH.out.f7,HH.out.f8,HH.out.f10,HH.out.f11,HH.out.f12,HH.out.f13,HH.out.f14,HH.out.f16,HH.out.f17,HH.out.im,HH.out.wv⟩⟩
  ·cases b7 with
   |true=>exact NS hi (by kernel_rfl)
   |false=>
   cases b6 with
   |false=>exact NS hi (by kernel_rfl)
   |true=>
   clear hi aQ;have hu6:=h.f6 rfl;subst hu6;simp only[turOps,f9,nK,Nat.reduceEqDiff,reduceIte,Option.getD_some];refine OS (by rfl) rfl ?_;have HH:=hide h;clear h;go_wp2;exact YM.out _ _ ⟨b0,b1,b2,b3,b4,b5,true,true,b8,b9,b10,b11,b12,b13,b14,b15,b16,b17,_,_,_,_,_,_,_,_,_,_,_,_,_,_,_,_,_,_,by kernel_rfl,rfl,⟨HH.out.f0,HH.out.f3,HH.out.f4,HH.out.f5,HH.out.f6,fun _=>rfl,HH.out.f8,HH.out.f10,HH.out.f11,HH.out.f12,HH.out.f13,HH.out.f14,HH.out.f16,HH.out.f17,HH.out.im,HH.out.wv⟩⟩
  ·cases b8 with
   |true=>exact NS hi (by kernel_rfl)
   |false=>
   cases b7 with
   |false=>exact NS hi (by kernel_rfl)
   |true=>
   clear hi aQ;have hu7:=h.f7 rfl;subst hu7;simp only[turOps,f9,nK,Nat.reduceEqDiff,reduceIte,Option.getD_some];refine OS (by rfl) rfl ?_;have HH:=hide h;clear h;go_wp2;exact YM.out _ _ ⟨b0,b1,b2,b3,b4,b5,b6,true,true,b9,b10,b11,b12,b13,b14,b15,b16,b17,_,_,_,_,_,_,_,_,_,_,_,_,_,_,_,_,_,_,by kernel_rfl,rfl,⟨HH.out.f0,HH.out.f3,HH.out.f4,HH.out.f5,HH.out.f6,HH.out.f7,fun _=>rfl,HH.out.f10,HH.out.f11,HH.out.f12,HH.out.f13,HH.out.f14,HH.out.f16,HH.out.f17,HH.out.im,HH.out.wv⟩⟩
  ·cases b9 with
   |true=>exact NS hi (by kernel_rfl)
   |false=>
   cases b8 with
   |false=>exact NS hi (by kernel_rfl)
   |true=>
   clear hi aQ;have hu8:=h.f8 rfl;subst hu8;simp only[turOps,f9,nK,Nat.reduceEqDiff,reduceIte,Option.getD_some];refine OS (by rfl) rfl ?_;have HH:=hide h;clear h;go_wp2;exact YM.out _ _ ⟨b0,b1,b2,b3,b4,b5,b6,b7,true,true,b10,b11,b12,b13,b14,b15,b16,b17,_,_,_,_,_,_,_,_,_,_,_,_,_,_,_,_,_,_,by kernel_rfl,rfl,⟨HH.out.f0,HH.out.f3,HH.out.f4,HH.out.f5,HH.out.f6,HH.out.f7,HH.out.f8,HH.out.f10,HH.out.f11,HH.out.f12,HH.out.f13,HH.out.f14,HH.out.f16,HH.out.f17,HH.out.im,HH.out.wv.byte⟩⟩
  ·cases b10 with
   |true=>exact NS hi (by kernel_rfl)
   |false=>
   cases b9 with
   |false=>exact NS hi (by kernel_rfl)
   |true=>
   clear hi aQ;simp only[turOps,f9,nK,Nat.reduceEqDiff,reduceIte,Option.getD_some];refine OS (by rfl) rfl ?_;have hwv:=h.wv;have HH:=hide h;clear h;obtain⟨B,hub,Jw⟩:=hwv.conv;subst hub;clear hwv;go_wp2;exact YM.out _ _ ⟨b0,b1,b2,b3,b4,b5,b6,b7,b8,true,true,b11,b12,b13,b14,b15,b16,b17,_,_,_,_,_,_,_,_,_,_,_,_,_,_,_,_,_,_,by kernel_rfl,rfl,⟨HH.out.f0,HH.out.f3,HH.out.f4,HH.out.f5,HH.out.f6,HH.out.f7,HH.out.f8,fun _=>rfl,HH.out.f11,HH.out.f12,HH.out.f13,HH.out.f14,HH.out.f16,HH.out.f17,HH.out.im,HH.out.wv⟩⟩
  ·cases b11 with
   |true=>exact NS hi (by kernel_rfl)
   |false=>
   cases b5 with
   |false=>exact NS hi (by kernel_rfl)
   |true=>
   cases b10 with
   |false=>exact NS hi (by kernel_rfl)
   |true=>
   clear hi aQ;have hu5:=h.f5 rfl;have hu10:=h.f10 rfl;subst hu5;subst hu10;simp only[turOps,f9,nK,Nat.reduceEqDiff,reduceIte,Option.getD_some];refine OS (by rfl) rfl ?_;have HH:=hide h;clear h;go_wp2;exact YM.out _ _ ⟨b0,b1,b2,b3,b4,true,b6,b7,b8,b9,true,true,b12,b13,b14,b15,b16,b17,_,_,_,_,_,_,_,_,_,_,_,_,_,_,_,_,_,_,by kernel_rfl,rfl,⟨HH.out.f0,HH.out.f3,HH.out.f4,HH.out.f5,HH.out.f6,HH.out.f7,HH.out.f8,HH.out.f10,fun _=>rfl,HH.out.f12,HH.out.f13,HH.out.f14,HH.out.f16,HH.out.f17,HH.out.im,HH.out.wv⟩⟩
  ·cases b12 with
   |true=>exact NS hi (by kernel_rfl)
   |false=>
   cases b11 with
   |false=>exact NS hi (by kernel_rfl)
   |true=>
   clear hi aQ;have hu11:=h.f11 rfl;subst hu11;simp only[turOps,f9,nK,Nat.reduceEqDiff,reduceIte,Option.getD_some];refine OS (by rfl) rfl ?_;have HH:=hide h;clear h;go_wp2;exact YM.out _ _ ⟨b0,b1,b2,b3,b4,b5,b6,b7,b8,b9,b10,true,true,b13,b14,b15,b16,b17,_,_,_,_,_,_,_,_,_,_,_,_,_,_,_,_,_,_,by kernel_rfl,rfl,⟨HH.out.f0,HH.out.f3,HH.out.f4,HH.out.f5,HH.out.f6,HH.out.f7,HH.out.f8,HH.out.f10,HH.out.f11,fun _=>rfl,HH.out.f13,HH.out.f14,HH.out.f16,HH.out.f17,HH.out.im,HH.out.wv⟩⟩
  ·cases b13 with
   |true=>exact NS hi (by kernel_rfl)
   |false=>
   clear hi aQ;simp only[turOps,f9,nK,Nat.reduceEqDiff,reduceIte,Option.getD_some];refine OS (by rfl) rfl ?_;have HH:=hide h;clear h;go_wp2;exact YM.out _ _ ⟨b0,b1,b2,b3,b4,b5,b6,b7,b8,b9,b10,b11,b12,true,b14,b15,b16,b17,_,_,_,_,_,_,_,_,_,_,_,_,_,_,_,_,_,_,by kernel_rfl,rfl,⟨HH.out.f0,HH.out.f3,HH.out.f4,HH.out.f5,HH.out.f6,HH.out.f7,HH.out.f8,HH.out.f10,HH.out.f11,HH.out.f12,fun _=>rfl,HH.out.f14,HH.out.f16,HH.out.f17,HH.out.im,HH.out.wv⟩⟩
  ·cases b14 with
   |true=>exact NS hi (by kernel_rfl)
   |false=>
   cases b12 with
   |false=>exact NS hi (by kernel_rfl)
   |true=>
   cases b13 with
   |false=>exact NS hi (by kernel_rfl)
   |true=>
   clear hi aQ;have hu12:=h.f12 rfl;have hu13:=h.f13 rfl;subst hu12;subst hu13;simp only[turOps,f9,nK,Nat.reduceEqDiff,reduceIte,Option.getD_some];refine OS (by rfl) rfl ?_;have HH:=hide h;clear h;go_wp2;rw[pS.out];exact YM.out _ _ ⟨b0,b1,b2,b3,b4,b5,b6,b7,b8,b9,b10,b11,true,true,true,b15,b16,b17,_,_,_,_,_,_,_,_,_,_,_,_,_,_,_,_,_,_,by kernel_rfl,rfl,⟨HH.out.f0,HH.out.f3,HH.out.f4,HH.out.f5,HH.out.f6,HH.out.f7,HH.out.f8,HH.out.f10,HH.out.f11,HH.out.f12,HH.out.f13,fun _=>rfl,HH.out.f16,HH.out.f17,HH.out.im,HH.out.wv⟩⟩
  ·cases b15 with
   |true=>exact NS hi (by kernel_rfl)
   |false=>
   cases b14 with
   |false=>exact NS hi (by kernel_rfl)
   |true=>
   clear hi aQ;have hu14:=h.f14 rfl;subst hu14;simp only[turOps,f9,nK,Nat.reduceEqDiff,reduceIte,Option.getD_some];refine OS (by rfl) rfl ?_;have HH:=hide h;clear h;go_wp2;exact YM.out _ _ ⟨b0,b1,b2,b3,b4,b5,b6,b7,b8,b9,b10,b11,b12,b13,true,true,b16,b17,_,_,_,_,_,_,_,_,_,_,_,_,_,_,_,_,_,_,by kernel_rfl,rfl,⟨HH.out.f0,HH.out.f3,HH.out.f4,HH.out.f5,HH.out.f6,HH.out.f7,HH.out.f8,HH.out.f10,HH.out.f11,HH.out.f12,HH.out.f13,HH.out.f14,HH.out.f16,HH.out.f17,HH.out.im,HH.out.wv.texts⟩⟩
  ·cases b16 with
   |true=>exact NS hi (by kernel_rfl)
   |false=>
   cases b1 with
   |false=>exact NS hi (by kernel_rfl)
   |true=>
   cases b2 with
   |false=>exact NS hi (by kernel_rfl)
   |true=>
   cases b15 with
   |false=>exact NS hi (by kernel_rfl)
   |true=>
   clear hi aQ;simp only[turOps,f9,nK,Nat.reduceEqDiff,reduceIte,Option.getD_some];refine OS (by rfl) rfl ?_;have hwv:=h.wv;have HH:=hide h;clear h;go_wp2_with fail;refine(hwv.is (one_le HAC.out) (by show 1<=1000;omega)).mono ?_;rintro e w2⟨rfl,Pt⟩;have HW:=hide Pt;clear Pt hwv;go_wp2;exact YM.out _ _ ⟨b0,true,true,b3,b4,b5,b6,b7,b8,b9,b10,b11,b12,b13,b14,true,true,b17,_,_,_,_,_,_,_,_,_,_,_,_,_,_,_,_,_,_,by kernel_rfl,rfl,⟨HH.out.f0,HH.out.f3,HH.out.f4,HH.out.f5,HH.out.f6,HH.out.f7,HH.out.f8,HH.out.f10,HH.out.f11,HH.out.f12,HH.out.f13,HH.out.f14,fun _=>rfl,HH.out.f17,fun _=>rfl,HW.out⟩⟩
  ·cases b17 with
   |true=>exact NS hi (by kernel_rfl)
   |false=>
   cases b16 with
   |false=>exact NS hi (by kernel_rfl)
   |true=>
   clear hi aQ;have hu16:=h.f16 rfl;subst hu16;simp only[turOps,f9,nK,Nat.reduceEqDiff,reduceIte,Option.getD_some];refine OS (by rfl) rfl ?_;have HH:=hide h;clear h;go_wp2;exact YM.out _ _ ⟨b0,b1,b2,b3,b4,b5,b6,b7,b8,b9,b10,b11,b12,b13,b14,b15,true,true,_,_,_,_,_,_,_,_,_,_,_,_,_,_,_,_,_,_,by kernel_rfl,rfl,⟨HH.out.f0,HH.out.f3,HH.out.f4,HH.out.f5,HH.out.f6,HH.out.f7,HH.out.f8,HH.out.f10,HH.out.f11,HH.out.f12,HH.out.f13,HH.out.f14,HH.out.f16,fun _=>rfl,HH.out.im,HH.out.wv⟩⟩
end Kp
namespace Kp
open Go.RowKit aD Mc Mr Lw bA
attribute [local go_sem] aP.ae aP.ah oU oW pX sU
theorem turns_any(tenants each:Int)(w:World)(P:iC w.heap.size w)(h1:I64 tenants)(h2:I64 each):Calls prog 9 #[.int .i64 tenants, .int .i64 each] w fun e w'=>e= .returned (.bool true)∧Below w.heap.size w w':=by
 obtain⟨a,ha⟩: ∃a,dX tenants 5=a:=⟨_,rfl⟩;obtain⟨b,hb⟩: ∃b,dX each 5=b:=⟨_,rfl⟩;have Na:a<5:=ha▸dZ tenants 5 (by omega);have kA:b<5:=hb▸dZ each 5 (by omega);have Dw:Hid (∀w,Calls prog 20 #[.int .i64 tenants, .int .i64 5] w fun e w'=>e= .returned (.int .i64 (a:Int))∧w'=w):=fun w=>ha▸pick_any tenants 5 w (by omega) (by omega) h1;have Hy:Hid (∀w,Calls prog 20 #[.int .i64 each, .int .i64 5] w fun e w'=>e= .returned (.int .i64 (b:Int))∧w'=w):=fun w=>hb▸pick_any each 5 w (by omega) (by omega) h2;have HK:=hide (Ri Na kA);clear ha hb h1 h2;obtain⟨T,hT⟩: ∃T,T=1+a:=⟨_,rfl⟩;obtain⟨E,hE⟩: ∃E,E=1+b:=⟨_,rfl⟩;rw[<-hT,<-hE]at HK;have HT:Hid ((1:Int)+(a:Int)=(T:Int)):=by show _=_;omega
 have HE:Hid ((1:Int)+(b:Int)=(E:Int)):=by show _=_;omega
 have hTb:(T:Int)<=5:=by omega
 have hEb:(E:Int)<=5:=by omega
 have hT0:(1:Int)<=(T:Int):=by omega
 have hE0:(1:Int)<=(E:Int):=by omega
 clear hT hE;have HTE:Hid (T*E<=5*5):=Nat.mul_le_mul (by omega) (by omega);have yG:Hid (Calls prog 21 #[.agg #[.int .i64 9, .int .i64 0, .int .i64 5, .int .i64 8, .int .i64 0]] w fun e w1=> ∃wp,e= .returned (.tuple #[.pointer (some ⟨wp,0,none⟩), .bool true])∧ie P wp 0 (St.init qL) w1):=pT P qL rfl;have Bv:Hid (∀(t k:Nat) (w':World),t<T->k<E->Calls prog 24 #[.int .i64 (10*(t:Int)+(k:Int))] w' fun e fM=>e= .returned (.string ⟨(a7 (10*(t:Int)+(k:Int))).toArray⟩)∧Below w'.heap.size w' fM):=fun t k w' ht hk=>by have:=fF (10*t+k) (by omega) w';rw[show((10*t+k:Nat):Int)=10*(t:Int)+(k:Int)by omega]at this;exact this
 go_enter func9,ntmps9;go_wp2_with fail;refine(Dw.out _).mono ?_;rintro e wq⟨rfl,hq⟩;subst wq;go_wp2_with fail;refine(Hy.out _).mono ?_;rintro e wq⟨rfl,hq⟩;subst wq;go_wp2_with fail;rw[HT.out,HE.out];refine yG.out.mono ?_;rintro e w1⟨wp,rfl,qX⟩;rw[<-mr qL (yl T E) (im T E)]at qX;have HG:=hide qX;clear qX yG Dw Hy HT HE Na kA;go_wp2_with fail;go_loopw [27] (fun i wr=> ∃t:Nat,t<=T∧i= .int .i64 t∧Hid (ie P wp (t*E) (bX qL (yl T E) (im T E) (t*E)) wr)) (fun i _=>T-(intOf i).toNat)
 case atStart=>exact⟨0,bk _,rfl,by rw[Nat.zero_mul];exact HG⟩
 case round=>
  clear HG;obtain⟨t,ht,rfl,HI⟩:=hrel;by_cases QJ:t<T
  ·go_wp2_with fail;go_loopw [31] (fun i wr=> ∃k:Nat,k<=E∧i= .int .i64 k∧Hid (ie P wp (t*E+k) (bX qL (yl T E) (im T E) (t*E+k)) wr)) (fun i _=>E-(intOf i).toNat)
   case atStart=>exact⟨0,bk _,rfl,HI⟩
   case round=>
    clear HI;obtain⟨k,hk,rfl,HI⟩:=hrel;by_cases ny:k<E
    ·have nW:=hide (fun w'=>Bv.out t k w' QJ ny);have pS:=hide (OL t k);have mG:=hide (OH t k);have HACL:=hide (Lx (10*t+k));have mV:=hide (HK.out.1.C9 (j:=t*E+k) (by have:=ym QJ ny;unfold yl;omega) (OB QJ ny));have YF:=hide (cW (10*(t:Int)+(k:Int)));generalize a7 (10*(t:Int)+(k:Int))=fk at*;have HN:Hid (t*E+k<=100000):=by have:=ym QJ ny;have:=HTE.out;show _<=_;omega
     go_wp2_with fail;refine KX (UI:=turOps 13) (by kernel_rfl) ?_;refine reg13 P wp _ _ fk (OJ (10*t+k) t) (GU (10*t+k)) t (10*(t:Int)+(k:Int)) _ _ _ _ _ _ _ _ _ _ _ _ _ _ _ _ _ _ _ _ _ _ _ _ _ _ _ _ _ _ _ _ _ _ _ _ _ _ _ _ _ _ _ _ _ _ _ _ _ _ _ _ _ _ _ _ _ _ _ _ _ _ _ _ _ _ _ _ _ _ _ _ _ _ _ _ _ _ _ _ _ _ _ _ _ _ _ _ _ _ _ _ _ _ _ _ _ _ _ _ _ _ _ _ _ _ _ _ _ _ _ _ _ _ _ _ _ _ _ _ _ _ _ _ _ _ _ _ _ _ _ _ _ _ _ _ _ _ _ _ _ _ _ _ _ _ _ _ _ _ HI.out mV.out HN.out (by omega) YF.out HACL.out nW.out pS.out mG.out ?_;intro y38 y39 y40 y41 y42 y43 y44 y45 y46 y47 y48 y49 y50 y51 y52 y53 y54 y55 y56 y57 y58 y59 w6 gM;have EJ:=hide gM;clear gM HI mV pS mG nW HN YF HACL;go_wp2;go_roundw
     case rel=>exact⟨k+1,by omega,by go_num,EJ⟩
     case measure=>simp[intOf];omega
    ·have eK:E=k:=by omega
     subst eK;have Rv:Hid (ie P wp ((t+1)*E) (bX qL (yl T E) (im T E) ((t+1)*E)) wr):=by rw[Nat.add_mul,Nat.one_mul];exact HI
     clear HI;go_wp2;go_roundw
     case rel=>exact⟨t+1,by omega,by go_num,Rv⟩
     case measure=>simp[intOf];omega
  ·have eT:T=t:=by omega
   subst eT;obtain⟨l1,l2,l3,l4⟩:=look_eq HK.out.2.1;obtain⟨y,cy,gZ⟩:=HI.out.look l1 l2 l3 l4 (by have:=HTE.out;omega);rw[Int.natCast_mul]at gZ;have lL:=hide gZ;have Xu:(T:Int)*(E:Int)<=25:=by
    have h0:=HTE.out;have h1:((T*E:Nat):Int)<=25:=by omega
    rw[Int.natCast_mul]at h1;exact h1
   have Ub:0<=(T:Int)*(E:Int):=Int.mul_nonneg (by omega) (by omega);clear gZ l1 l2 l3 l4 HI;go_wp2_with fail;refine lL.out.mono ?_;rintro e w4⟨rfl,gL⟩;have HG:=hide gL;clear gL lL cy;go_wp2_with fail;clear Xu Ub;go_loopw [74] (fun i wr=> ∃k:Nat,k<=E∧i= .int .i64 k∧Hid (ie P wp (T*E+2*(k*T)) (bX qL (yl T E) (im T E) (T*E+2*(k*T))) wr)) (fun i _=>E-(intOf i).toNat)
   case atStart=>exact⟨0,bk _,rfl,by rw[Nat.zero_mul];exact HG⟩
   case round=>
    clear HG;obtain⟨k,hk,rfl,HI⟩:=hrel;by_cases ny:k<E
    ·go_wp2_with fail;go_loopw [78] (fun i wr=> ∃t:Nat,t<=T∧i= .int .i64 t∧Hid (ie P wp (T*E+2*(k*T+t)) (bX qL (yl T E) (im T E) (T*E+2*(k*T+t))) wr)) (fun i _=>T-(intOf i).toNat)
     case atStart=>exact⟨0,bk _,rfl,HI⟩
     case round=>
      clear HI;obtain⟨t,ht,rfl,HI⟩:=hrel;by_cases QJ:t<T
      ·have nW:=hide (fun w'=>Bv.out t k w' QJ ny);have pS:=hide (OI t k);have mG:=hide (Lz t k);have Mj:=hide (OM t k);have HRL:=hide (LA (10*t+k) t);have HVL:=hide (LB (10*t+k));have HNN:Hid (T*E+2*(k*T+t)+1<yl T E∧T*E+2*(k*T+t)+1<=100000):=by
        have h1:=ym ny QJ;have h2:=HTE.out;have h3:E*T=T*E:=Nat.mul_comm _ _;refine⟨?_, ?_⟩
        ·unfold yl;omega
        ·omega
       have mV:=hide (HK.out.1.C9 (j:=T*E+2*(k*T+t)) (by have:=HNN.out.1;omega) (OC QJ ny));have Jz:=cW (10*(t:Int)+(k:Int));generalize a7 (10*(t:Int)+(k:Int))=fk at*;go_wp2_with fail;refine(nW.out _).mono ?_;rintro e w5⟨rfl,pM⟩;have HI5:=hide (HI.out.below pM);clear pM HI nW;go_wp2_with fail;refine KX (UI:=turOps 26) (by kernel_rfl) ?_;refine reg26 P wp _ _ fk (GV (10*t+k) t) t _ _ _ _ _ _ _ _ _ _ _ _ _ _ _ _ _ _ _ _ _ _ _ _ _ _ _ _ _ _ _ _ _ _ _ _ _ _ _ _ _ _ _ _ _ _ _ _ _ _ _ _ _ _ _ _ _ _ _ _ _ _ _ _ _ _ _ _ _ _ _ _ _ _ _ _ _ _ _ _ _ _ _ _ _ _ _ _ _ _ _ _ _ _ _ _ _ _ _ _ _ _ _ _ _ _ _ _ _ _ _ _ _ _ _ _ _ _ _ _ _ _ _ _ _ _ _ _ _ _ _ _ _ _ _ _ _ _ _ _ _ _ _ _ _ _ _ _ _ _ HI5.out mV.out (by have:=HNN.out.2;omega) (by omega) Jz HRL.out pS.out ?_;intro y86 y87 y88 y89 y90 y91 y92 y93 y94 y95 y96 y97 y98 y99 y100 y101 y102 w6 gM;have EJ:=hide gM;clear gM HI5 mV pS HRL;by_cases he:(k+t) %2=0
       ·have LM:=hide (HK.out.1.C9 (j:=T*E+2*(k*T+t)+1) HNN.out.1 (OD QJ ny he));have hpar:((k:Int)+(t:Int)) %2=0:=by omega
        go_wp2_with fail;rw[mG.out];refine(EJ.out.tell (t:=⟨(EI (10*t+k)).toArray⟩) LM.out HNN.out.2).mono ?_;rintro e w7⟨v,rfl,ik⟩;have yL:=hide ik;clear ik EJ LM mG;go_wp2_with fail;rw[Mj.out];refine(yL.out.both (one_le HVL.out) (k:=1) rfl (by omega) rfl rfl).mono ?_;rintro e w8⟨rfl,oI⟩;have HI8:Hid (ie P wp (T*E+2*(k*T+(t+1))) (bX qL (yl T E) (im T E) (T*E+2*(k*T+(t+1)))) w8):=by rw[show T*E+2*(k*T+(t+1))=T*E+2*(k*T+t)+1+1 by omega];exact oI
        clear oI yL Mj HNN HVL;go_wp2;go_roundw
        case rel=>exact⟨t+1,by omega,by go_num,HI8⟩
        case measure=>simp[intOf];omega
       ·have HI8:Hid (ie P wp (T*E+2*(k*T+(t+1))) (bX qL (yl T E) (im T E) (T*E+2*(k*T+(t+1)))) w6):=by
         rw[show T*E+2*(k*T+(t+1))=T*E+2*(k*T+t)+1+1 by omega];exact ie.skip HK.out.1 HNN.out.1 (OE QJ ny he) EJ.out
        have hpar: ¬((k:Int)+(t:Int)) %2=0:=by omega
        clear EJ HNN mG Mj HVL;go_wp2;go_roundw
        case rel=>exact⟨t+1,by omega,by go_num,HI8⟩
        case measure=>simp[intOf];omega
      ·have eT:T=t:=by omega
       subst eT;have Rv:Hid (ie P wp (T*E+2*((k+1)*T)) (bX qL (yl T E) (im T E) (T*E+2*((k+1)*T))) wr):=by rw[Nat.add_mul,Nat.one_mul];exact HI
       clear HI;go_wp2;go_roundw
       case rel=>exact⟨k+1,by omega,by go_num,Rv⟩
       case measure=>simp[intOf];omega
    ·have eK:E=k:=by omega
     subst eK;have HNN:Hid (T*E+2*(E*T)<=100∧UR (bX qL (yl T E) (im T E) (T*E+2*(E*T)+1))=true):=by have h2:=HTE.out;have h3:E*T=T*E:=Nat.mul_comm _ _;exact⟨by omega,HK.out.2.2⟩
     have mV:=hide (HK.out.1.C9 (j:=T*E+2*(E*T)) (by unfold yl;omega) (OG T E));go_wp2_with fail;refine(HI.out.mute (t:=⟨#[112,117,108,108]⟩) mV.out (by have:=HNN.out.1;omega)).mono ?_;rintro e w5⟨ao,cap,rfl,fO⟩;have hq:=HNN.out.2;unfold UR at hq;simp only[a8,beq_iff_eq]at hq;obtain⟨y,cy,gZ⟩:=fO.look rfl hq.2 rfl hq.1 (by have:=HNN.out.1;omega);have lL:=hide gZ;have HQ:=hide hq;clear gZ hq fO HI mV;go_wp2_with fail;refine lL.out.mono ?_;rintro e w6⟨rfl,gM⟩;obtain⟨y2,Zd,hlk2⟩:=gM.look rfl HQ.out.2 rfl HQ.out.1 (by have:=HNN.out.1;omega);have Sm:=hide hlk2;clear hlk2 gM lL cy;go_wp2_with fail;refine Sm.out.mono ?_;rintro e w7⟨rfl,ik⟩;have HB:=hide ik.toBelow;clear ik Sm Zd;go_wp2;go_ret;exact⟨rfl,HB.out⟩
