import Derived.Test.YtffamlbkmjmipaaGreatDoorC36
import Derived.Test.YtffamlbkmjmipaaGreatDoorC37
set_option maxHeartbeats 8000000
set_option maxRecDepth 100000
namespace Go.Proofs.YtffamlbkmjmipaaGreatDoor
open _root_.Go.Proofs.Tryz
namespace bA
open Go.RowKit
attribute [local go_sem] aP.ae aP.ah
variable{base:Nat}{bL:World}
theorem take_any(L:ig base bL)(q:Nat)(k:List UInt8)(r:List (List UInt8))(ao:Option Addr)(a cap:Nat)(w:World)(hb:Below base bL w)(hB:base<=w.heap.size)(wj:base<=q)(fY:w.heap[q]?=some (.cells (cs0 k) 149 (0,0)))(ck:0<r.length->ao=some ⟨a,1,none⟩∧a<w.heap.size∧a≠q)(jZ: ∀x∈r,x.length<=4194304)(jg:r.length<=4194304)(kU: ∀i (h:i<r.length),w.cell? ⟨a,1+i,none⟩=some (.string ⟨(r[i]'h).toArray⟩)):Calls prog 134 #[.pointer (some ⟨q,0,none⟩), .slice ao r.length cap] w (nX q k r w):=by
 cases h0:(k== [112,117,108,108])
 ·cases h1:(k== [98,101,97,116])
  ·cases h2:(k== [100,114,97,105,110])
   ·cases h3:(k== [99,97,110])
    ·cases h4:(k== [102,97,105,108])
     ·cases h5:(k== [115,117,98])
      ·cases h6:(k== [100,111,110,101])
       ·exact Df q k r ao cap w fY h0 h1 h2 h3 h4 h5 h6
       ·exact GQ L q k r ao a cap w hb hB wj fY ck jZ jg kU h0 h1 h2 h3 h4 h5 h6
      ·exact Lp L q k r ao a cap w hb hB wj fY ck jZ jg kU h0 h1 h2 h3 h4 h5
     ·exact GR L q k r ao a cap w hb hB wj fY ck jZ jg kU h0 h1 h2 h3 h4
    ·exact Lm L q k r ao a cap w hb hB wj fY ck jZ jg kU h0 h1 h2 h3
   ·exact De q k r ao a cap w fY ck jZ jg kU h0 h1 h2
  ·exact GP q k r ao a cap w fY ck jZ jg kU h0 h1
 ·exact GS q k r ao a cap w fY ck jZ jg kU h0
def SG(l:List UInt8)(w:World)(e:Ending)(w':World):Prop:= ∃M:Mg,e= .returned (.tuple #[.agg M.cs, .bool (fU l).2])∧((fU l).2=true->M=(fU l).1)∧Below w.heap.size w w'
theorem Gd(L:ig base bL)(s:ByteArray)(w:World)(hs:s.size<=4194304)(hb:Below base bL w)(hB:base<=w.heap.size):Calls prog 88 #[.string s] w (SG s.data.toList w):=by
 obtain⟨k,r,hw⟩: ∃k r,cD 32 s.data.toList=k::r:=by
  cases h:cD 32 s.data.toList with
  |nil=>exact absurd h (IU _ _)
  |cons k r=>exact⟨k,r,rfl⟩
 have Un:=cut_small (c:=32) hs;rw[hw]at Un;have jZ: ∀x∈r,x.length<=4194304:=fun x hx=>Un x (aY _ hx);have jg:r.length<=4194304:=by
  have h1:=(sX 32 s.data.toList).1;have h2:(cD 32 s.data.toList).length=(pY 32 s.data.toList).1.length+1:=by unfold cD;simp
  rw[hw]at h2;have h3:s.data.toList.length=s.size:=by simp
  simp at h2;omega
 have eR:fU s.data.toList=bm (k::r):=by unfold fU;rw[hw]
 have U3:Hid (Calls prog 133 #[.string s, .string ⟨#[32]⟩] (w.alloc (.cells #[.string ⟨#[]⟩, .int .i64 0, .int .i64 0, .string ⟨#[]⟩, .string ⟨#[]⟩] 149)) fun e w2=>e= .returned (.slice (some ⟨w.heap.size+1,0,none⟩) (r.length+1) (r.length+1))∧w2.cell? ⟨w.heap.size+1,0,none⟩=some (.string ⟨k.toArray⟩)∧w2.heap.size=w.heap.size+2∧
   Hid (Below w.heap.size w w2∧w2.heap[w.heap.size]?=some (.cells #[.string ⟨#[]⟩, .int .i64 0, .int .i64 0, .string ⟨#[]⟩, .string ⟨#[]⟩] 149 (0,0))∧w2.heap[w.heap.size+1]?=some (.cells (strs (k::r)).toArray 9 (0,0)))):=by
  have b1:Below w.heap.size w (w.alloc (.cells #[.string ⟨#[]⟩, .int .i64 0, .int .i64 0, .string ⟨#[]⟩, .string ⟨#[]⟩] 149)):=(ar _ _).alloc (af _) _;have z1:=heap_alloc_new w (.cells #[.string ⟨#[]⟩, .int .i64 0, .int .i64 0, .string ⟨#[]⟩, .string ⟨#[]⟩] 149);have s1:(w.alloc (.cells #[.string ⟨#[]⟩, .int .i64 0, .int .i64 0, .string ⟨#[]⟩, .string ⟨#[]⟩] 149)).heap.size=w.heap.size+1:=by simp
  generalize w.alloc (.cells #[.string ⟨#[]⟩, .int .i64 0, .int .i64 0, .string ⟨#[]⟩, .string ⟨#[]⟩] 149)=w1 at*;have h:=L.split s w1 hs (hb.trans (b1.mono hB));rw[hw]at h;show Calls _ _ _ _ _;refine h.mono ?_;rintro e w2⟨rfl,rfl⟩;have b2:Below w1.heap.size w1 (w1.alloc (.cells (strs (k::r)).toArray 9)):=(ar _ _).alloc (af _) _;have z2:=heap_alloc_new w1 (.cells (strs (k::r)).toArray 9);rw[s1]at z2;refine⟨by rw[s1];rfl,by simp only[World.cell?,z2];rfl,by simp;omega,b1.trans (b2.mono b1.size), ?_,z2⟩;rw[b2.block w.heap.size (by omega)];exact z1
 have EN:Hid (∀w2,w2.heap.size=w.heap.size+2->(Below w.heap.size w w2∧w2.heap[w.heap.size]?=some (.cells #[.string ⟨#[]⟩, .int .i64 0, .int .i64 0, .string ⟨#[]⟩, .string ⟨#[]⟩] 149 (0,0))∧w2.heap[w.heap.size+1]?=some (.cells (strs (k::r)).toArray 9 (0,0)))-> ∀ao cap,(0<r.length->ao=some ⟨w.heap.size+1,1,none⟩)->
   Calls prog 134 #[.pointer (some ⟨w.heap.size+2,0,none⟩), .slice ao r.length cap] (w2.alloc (.cells (cs0 k) 149)) fun e w5=>e= .returned (.bool (bm (k::r)).2)∧Below w.heap.size w w5∧w.heap.size<w5.heap.size∧w5.heap[w.heap.size]?=some (.cells #[.string ⟨#[]⟩, .int .i64 0, .int .i64 0, .string ⟨#[]⟩, .string ⟨#[]⟩] 149 (0,0))∧((bm (k::r)).2=true->w5.heap[w.heap.size+2]?=some (.cells (bm (k::r)).1.cs 149 (0,0)))):=fun w2 s2 Pt ao cap ck=>by
  obtain⟨b2,z0,z1⟩:=Pt;have b3:Below w2.heap.size w2 (w2.alloc (.cells (cs0 k) 149)):=(ar _ _).alloc (af _) _;have z3:=heap_alloc_new w2 (.cells (cs0 k) 149);have s3:(w2.alloc (.cells (cs0 k) 149)).heap.size=w2.heap.size+1:=by simp
  rw[s2]at z3;generalize w2.alloc (.cells (cs0 k) 149)=w3 at*;have SN:=b2.trans (b3.mono b2.size);have z0':w3.heap[w.heap.size]?=_:=(b3.block w.heap.size (by omega)).trans z0;have VH:w3.heap[w.heap.size+1]?=_:=(b3.block (w.heap.size+1) (by omega)).trans z1;refine(take_any L (w.heap.size+2) k r ao (w.heap.size+1) cap w3 (hb.trans (SN.mono hB)) (by omega) (by omega) z3 (fun h=>⟨ck h,by omega,by omega⟩) jZ jg (fun i hi=> ?_)).mono ?_
  ·simp only[World.cell?,VH];show(strs (k::r)).toArray[1+i]?=_;unfold strs;rw[Nat.add_comm];simp[hi]
  ·rintro e w5⟨rfl,ho,hp⟩;have h5:=ho.size;refine⟨rfl,⟨ho.os.trans SN.os,ho.tape.trans SN.tape,ho.output.trans SN.output,by omega,fun j hj=> ?_⟩,by omega, ?_,hp⟩
   ·rw[ho.block j (by omega) (by omega)];exact SN.block j hj
   ·rw[ho.block w.heap.size (by omega) (by omega)];exact z0'
 have OV:Hid (fU s.data.toList=bm (k::r)):=eR;clear eR hw Un jZ L hb;cases Jp:(bm (k::r)).2
 ·rw[Jp]at EN;have He:Hid ((bm (k::r)).2=false):=Jp;clear Jp;generalize jH:r.length=rl at*;clear jH;unfold cs0 at EN;go_enter func88,ntmps88;go_wp2_with fail;refine U3.out.mono ?_;rintro e w2⟨rfl,c0,s2,SB⟩;have mG:Hid (∀ao cap,_):=EN.out w2 s2 SB.out;clear U3 EN SB;go_wp2_with fail
  ·rename_i h;subst h;refine(mG.out (some ⟨w.heap.size+1,0,none⟩) 0 (fun h=>absurd h (by omega))).mono ?_;rintro e w5⟨rfl,pM,Vs,z5,_⟩;have r0:w5.cell? ⟨w.heap.size,0,none⟩=some (.string ⟨#[]⟩):=by simp only[World.cell?,z5];rfl
   have f0:w5.frozen? ⟨w.heap.size,0,none⟩=false:=by simp only[World.frozen?,z5];simp
   have r1:w5.cell? ⟨w.heap.size,1,none⟩=some (.int .i64 0):=by simp only[World.cell?,z5];rfl
   have f1:w5.frozen? ⟨w.heap.size,1,none⟩=false:=by simp only[World.frozen?,z5];simp
   have r2:w5.cell? ⟨w.heap.size,2,none⟩=some (.int .i64 0):=by simp only[World.cell?,z5];rfl
   have f2:w5.frozen? ⟨w.heap.size,2,none⟩=false:=by simp only[World.frozen?,z5];simp
   have r3:w5.cell? ⟨w.heap.size,3,none⟩=some (.string ⟨#[]⟩):=by simp only[World.cell?,z5];rfl
   have f3:w5.frozen? ⟨w.heap.size,3,none⟩=false:=by simp only[World.frozen?,z5];simp
   have r4:w5.cell? ⟨w.heap.size,4,none⟩=some (.string ⟨#[]⟩):=by simp only[World.cell?,z5];rfl
   have f4:w5.frozen? ⟨w.heap.size,4,none⟩=false:=by simp only[World.frozen?,z5];simp
   have Hr:Hid (Below w.heap.size w w5):=pM;clear z5 pM mG;go_wp2;refine bodyPost_ret (v:= .tuple #[.agg #[.string ⟨#[]⟩, .int .i64 0, .int .i64 0, .string ⟨#[]⟩, .string ⟨#[]⟩], .bool false]) (by simp[results,results88,go_sem, *]) rfl ⟨⟨[],0,0, [], []⟩,by rw[OV.out,He.out];rfl,fun h=>(by rw[OV.out,He.out]at h;cases h), ?_⟩;exact jn Hr.out _ _ _ _ _
  ·refine(mG.out (some ⟨w.heap.size+1,1,none⟩) rl (fun _=>rfl)).mono ?_;rintro e w5⟨rfl,pM,Vs,z5,_⟩;have r0:w5.cell? ⟨w.heap.size,0,none⟩=some (.string ⟨#[]⟩):=by simp only[World.cell?,z5];rfl
   have f0:w5.frozen? ⟨w.heap.size,0,none⟩=false:=by simp only[World.frozen?,z5];simp
   have r1:w5.cell? ⟨w.heap.size,1,none⟩=some (.int .i64 0):=by simp only[World.cell?,z5];rfl
   have f1:w5.frozen? ⟨w.heap.size,1,none⟩=false:=by simp only[World.frozen?,z5];simp
   have r2:w5.cell? ⟨w.heap.size,2,none⟩=some (.int .i64 0):=by simp only[World.cell?,z5];rfl
   have f2:w5.frozen? ⟨w.heap.size,2,none⟩=false:=by simp only[World.frozen?,z5];simp
   have r3:w5.cell? ⟨w.heap.size,3,none⟩=some (.string ⟨#[]⟩):=by simp only[World.cell?,z5];rfl
   have f3:w5.frozen? ⟨w.heap.size,3,none⟩=false:=by simp only[World.frozen?,z5];simp
   have r4:w5.cell? ⟨w.heap.size,4,none⟩=some (.string ⟨#[]⟩):=by simp only[World.cell?,z5];rfl
   have f4:w5.frozen? ⟨w.heap.size,4,none⟩=false:=by simp only[World.frozen?,z5];simp
   have Hr:Hid (Below w.heap.size w w5):=pM;clear z5 pM mG;go_wp2;refine bodyPost_ret (v:= .tuple #[.agg #[.string ⟨#[]⟩, .int .i64 0, .int .i64 0, .string ⟨#[]⟩, .string ⟨#[]⟩], .bool false]) (by simp[results,results88,go_sem, *]) rfl ⟨⟨[],0,0, [], []⟩,by rw[OV.out,He.out];rfl,fun h=>(by rw[OV.out,He.out]at h;cases h), ?_⟩;exact jn Hr.out _ _ _ _ _
 ·rw[Jp]at EN;have He:Hid ((bm (k::r)).2=true):=Jp;clear Jp;generalize jH:r.length=rl at*;clear jH;unfold cs0 at EN;generalize hM:(bm (k::r)).1=M at*;have HM:Hid ((bm (k::r)).1=M):=hM;clear hM;go_enter func88,ntmps88;go_wp2_with fail;refine U3.out.mono ?_;rintro e w2⟨rfl,c0,s2,SB⟩;have mG:Hid (∀ao cap,_):=EN.out w2 s2 SB.out;clear U3 EN SB;go_wp2_with fail
  ·rename_i h;subst h;refine(mG.out (some ⟨w.heap.size+1,0,none⟩) 0 (fun h=>absurd h (by omega))).mono ?_;rintro e w5⟨rfl,pM,Vs,z5,q5⟩;have q5:=q5 (by first|rfl|trivial);have r0:w5.cell? ⟨w.heap.size,0,none⟩=some (.string ⟨#[]⟩):=by simp only[World.cell?,z5];rfl
   have f0:w5.frozen? ⟨w.heap.size,0,none⟩=false:=by simp only[World.frozen?,z5];simp
   have r1:w5.cell? ⟨w.heap.size,1,none⟩=some (.int .i64 0):=by simp only[World.cell?,z5];rfl
   have f1:w5.frozen? ⟨w.heap.size,1,none⟩=false:=by simp only[World.frozen?,z5];simp
   have r2:w5.cell? ⟨w.heap.size,2,none⟩=some (.int .i64 0):=by simp only[World.cell?,z5];rfl
   have f2:w5.frozen? ⟨w.heap.size,2,none⟩=false:=by simp only[World.frozen?,z5];simp
   have r3:w5.cell? ⟨w.heap.size,3,none⟩=some (.string ⟨#[]⟩):=by simp only[World.cell?,z5];rfl
   have f3:w5.frozen? ⟨w.heap.size,3,none⟩=false:=by simp only[World.frozen?,z5];simp
   have r4:w5.cell? ⟨w.heap.size,4,none⟩=some (.string ⟨#[]⟩):=by simp only[World.cell?,z5];rfl
   have f4:w5.frozen? ⟨w.heap.size,4,none⟩=false:=by simp only[World.frozen?,z5];simp
   have m0:w5.cell? ⟨w.heap.size+2,0,none⟩=some (.string ⟨M.kind.toArray⟩):=by simp only[World.cell?,q5];rfl
   have m1:w5.cell? ⟨w.heap.size+2,1,none⟩=some (.int .i64 M.id):=by simp only[World.cell?,q5];rfl
   have m2:w5.cell? ⟨w.heap.size+2,2,none⟩=some (.int .i64 M.bB):=by simp only[World.cell?,q5];rfl
   have m3:w5.cell? ⟨w.heap.size+2,3,none⟩=some (.string ⟨M.ten.toArray⟩):=by simp only[World.cell?,q5];rfl
   have m4:w5.cell? ⟨w.heap.size+2,4,none⟩=some (.string ⟨M.txt.toArray⟩):=by simp only[World.cell?,q5];rfl
   have Hr:Hid (Below w.heap.size w w5):=pM;clear z5 q5 pM mG;go_wp2;refine bodyPost_ret (v:= .tuple #[.agg M.cs, .bool true]) (by simp[results,results88,go_sem,Mg.cs, *]) rfl ⟨M,by rw[OV.out,He.out],fun _=>(by rw[OV.out,HM.out]), ?_⟩;exact jn Hr.out _ _ _ _ _
  ·refine(mG.out (some ⟨w.heap.size+1,1,none⟩) rl (fun _=>rfl)).mono ?_;rintro e w5⟨rfl,pM,Vs,z5,q5⟩;have q5:=q5 (by first|rfl|trivial);have r0:w5.cell? ⟨w.heap.size,0,none⟩=some (.string ⟨#[]⟩):=by simp only[World.cell?,z5];rfl
   have f0:w5.frozen? ⟨w.heap.size,0,none⟩=false:=by simp only[World.frozen?,z5];simp
   have r1:w5.cell? ⟨w.heap.size,1,none⟩=some (.int .i64 0):=by simp only[World.cell?,z5];rfl
   have f1:w5.frozen? ⟨w.heap.size,1,none⟩=false:=by simp only[World.frozen?,z5];simp
   have r2:w5.cell? ⟨w.heap.size,2,none⟩=some (.int .i64 0):=by simp only[World.cell?,z5];rfl
   have f2:w5.frozen? ⟨w.heap.size,2,none⟩=false:=by simp only[World.frozen?,z5];simp
   have r3:w5.cell? ⟨w.heap.size,3,none⟩=some (.string ⟨#[]⟩):=by simp only[World.cell?,z5];rfl
   have f3:w5.frozen? ⟨w.heap.size,3,none⟩=false:=by simp only[World.frozen?,z5];simp
   have r4:w5.cell? ⟨w.heap.size,4,none⟩=some (.string ⟨#[]⟩):=by simp only[World.cell?,z5];rfl
   have f4:w5.frozen? ⟨w.heap.size,4,none⟩=false:=by simp only[World.frozen?,z5];simp
   have m0:w5.cell? ⟨w.heap.size+2,0,none⟩=some (.string ⟨M.kind.toArray⟩):=by simp only[World.cell?,q5];rfl
   have m1:w5.cell? ⟨w.heap.size+2,1,none⟩=some (.int .i64 M.id):=by simp only[World.cell?,q5];rfl
   have m2:w5.cell? ⟨w.heap.size+2,2,none⟩=some (.int .i64 M.bB):=by simp only[World.cell?,q5];rfl
   have m3:w5.cell? ⟨w.heap.size+2,3,none⟩=some (.string ⟨M.ten.toArray⟩):=by simp only[World.cell?,q5];rfl
   have m4:w5.cell? ⟨w.heap.size+2,4,none⟩=some (.string ⟨M.txt.toArray⟩):=by simp only[World.cell?,q5];rfl
   have Hr:Hid (Below w.heap.size w w5):=pM;clear z5 q5 pM mG;go_wp2;refine bodyPost_ret (v:= .tuple #[.agg M.cs, .bool true]) (by simp[results,results88,go_sem,Mg.cs, *]) rfl ⟨M,by rw[OV.out,He.out],fun _=>(by rw[OV.out,HM.out]), ?_⟩;exact jn Hr.out _ _ _ _ _
