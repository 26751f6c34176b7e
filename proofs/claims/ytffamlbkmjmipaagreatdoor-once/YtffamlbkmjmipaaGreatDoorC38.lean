import Derived.Test.YtffamlbkmjmipaaGreatDoorC36
import Derived.Test.YtffamlbkmjmipaaGreatDoorC37
set_option maxHeartbeats 8000000
set_option maxRecDepth 100000
namespace Go.Proofs.YtffamlbkmjmipaaGreatDoor
open _root_.Go.Proofs.Tryz
namespace bG
open Go.RowKit
attribute [local go_sem] aG.ae aG.ag
variable{base:Nat}{cg:World}
theorem take_any(L:iP base cg)(q:Nat)(k:List UInt8)(r:List (List UInt8))(ao:Option Addr)(a cap:Nat)(w:World)(hb:Below base cg w)(hB:base<=w.heap.size)(Aa:base<=q)(gL:w.heap[q]?=some (.cells (cs0 k) 149 (0,0)))(bQ:0<r.length->ao=some ⟨a,1,none⟩∧a<w.heap.size∧a≠q)(kS: ∀x∈r,x.length<=4194304)(iA:r.length<=4194304)(mC: ∀i (h:i<r.length),w.cell? ⟨a,1+i,none⟩=some (.string ⟨(r[i]'h).toArray⟩)):Calls prog 134 #[.pointer (some ⟨q,0,none⟩), .slice ao r.length cap] w (qX q k r w):=by
 cases h0:(k== [112,117,108,108])
 ·cases h1:(k== [98,101,97,116])
  ·cases h2:(k== [100,114,97,105,110])
   ·cases h3:(k== [99,97,110])
    ·cases h4:(k== [102,97,105,108])
     ·cases h5:(k== [115,117,98])
      ·cases h6:(k== [100,111,110,101])
       ·exact Hu q k r ao cap w gL h0 h1 h2 h3 h4 h5 h6
       ·exact Ls L q k r ao a cap w hb hB Aa gL bQ kS iA mC h0 h1 h2 h3 h4 h5 h6
      ·exact QX L q k r ao a cap w hb hB Aa gL bQ kS iA mC h0 h1 h2 h3 h4 h5
     ·exact Lt L q k r ao a cap w hb hB Aa gL bQ kS iA mC h0 h1 h2 h3 h4
    ·exact QW L q k r ao a cap w hb hB Aa gL bQ kS iA mC h0 h1 h2 h3
   ·exact Ht q k r ao a cap w gL bQ kS iA mC h0 h1 h2
  ·exact Lr q k r ao a cap w gL bQ kS iA mC h0 h1
 ·exact Lu q k r ao a cap w gL bQ kS iA mC h0
def Yo(l:List UInt8)(w:World)(e:Ending)(w':World):Prop:= ∃M:Mg,e= .returned (.tuple #[.agg M.cs, .bool (gH l).2])∧((gH l).2=true->M=(gH l).1)∧Below w.heap.size w w'
theorem K5(L:iP base cg)(s:ByteArray)(w:World)(hs:s.size<=4194304)(hb:Below base cg w)(hB:base<=w.heap.size):Calls prog 88 #[.string s] w (Yo s.data.toList w):=by
 obtain⟨k,r,hw⟩: ∃k r,bB 32 s.data.toList=k::r:=by
  cases h:bB 32 s.data.toList with
  |nil=>exact absurd h (M0 _ _)
  |cons k r=>exact⟨k,r,rfl⟩
 have ZJ:=cut_small (c:=32) hs;rw[hw]at ZJ;have kS: ∀x∈r,x.length<=4194304:=fun x hx=>ZJ x (aV _ hx);have iA:r.length<=4194304:=by
  have h1:=(vW 32 s.data.toList).1;have h2:(bB 32 s.data.toList).length=(gu 32 s.data.toList).1.length+1:=by unfold bB;simp
  rw[hw]at h2;have h3:s.data.toList.length=s.size:=by simp
  simp at h2;omega
 have eR:gH s.data.toList=a6 (k::r):=by unfold gH;rw[hw]
 have HSP:Hid (Calls prog 133 #[.string s, .string ⟨#[32]⟩] (w.alloc (.cells #[.string ⟨#[]⟩, .int .i64 0, .int .i64 0, .string ⟨#[]⟩, .string ⟨#[]⟩] 149)) fun e w2=>e= .returned (.slice (some ⟨w.heap.size+1,0,none⟩) (r.length+1) (r.length+1))∧w2.cell? ⟨w.heap.size+1,0,none⟩=some (.string ⟨k.toArray⟩)∧w2.heap.size=w.heap.size+2∧
   Hid (Below w.heap.size w w2∧w2.heap[w.heap.size]?=some (.cells #[.string ⟨#[]⟩, .int .i64 0, .int .i64 0, .string ⟨#[]⟩, .string ⟨#[]⟩] 149 (0,0))∧w2.heap[w.heap.size+1]?=some (.cells (strs (k::r)).toArray 9 (0,0)))):=by
  have b1:Below w.heap.size w (w.alloc (.cells #[.string ⟨#[]⟩, .int .i64 0, .int .i64 0, .string ⟨#[]⟩, .string ⟨#[]⟩] 149)):=(au _ _).alloc (af _) _;have z1:=heap_alloc_new w (.cells #[.string ⟨#[]⟩, .int .i64 0, .int .i64 0, .string ⟨#[]⟩, .string ⟨#[]⟩] 149);have s1:(w.alloc (.cells #[.string ⟨#[]⟩, .int .i64 0, .int .i64 0, .string ⟨#[]⟩, .string ⟨#[]⟩] 149)).heap.size=w.heap.size+1:=by simp
  generalize w.alloc (.cells #[.string ⟨#[]⟩, .int .i64 0, .int .i64 0, .string ⟨#[]⟩, .string ⟨#[]⟩] 149)=w1 at*;have h:=L.split s w1 hs (hb.trans (b1.mono hB));rw[hw]at h;show Calls _ _ _ _ _;refine h.mono ?_;rintro e w2⟨rfl,rfl⟩;have b2:Below w1.heap.size w1 (w1.alloc (.cells (strs (k::r)).toArray 9)):=(au _ _).alloc (af _) _;have z2:=heap_alloc_new w1 (.cells (strs (k::r)).toArray 9);rw[s1]at z2;refine⟨by rw[s1];rfl,by simp only[World.cell?,z2];rfl,by simp;omega,b1.trans (b2.mono b1.size), ?_,z2⟩;rw[b2.block w.heap.size (by omega)];exact z1
 have Uk:Hid (∀w2,w2.heap.size=w.heap.size+2->(Below w.heap.size w w2∧w2.heap[w.heap.size]?=some (.cells #[.string ⟨#[]⟩, .int .i64 0, .int .i64 0, .string ⟨#[]⟩, .string ⟨#[]⟩] 149 (0,0))∧w2.heap[w.heap.size+1]?=some (.cells (strs (k::r)).toArray 9 (0,0)))-> ∀ao cap,(0<r.length->ao=some ⟨w.heap.size+1,1,none⟩)->
   Calls prog 134 #[.pointer (some ⟨w.heap.size+2,0,none⟩), .slice ao r.length cap] (w2.alloc (.cells (cs0 k) 149)) fun e w5=>e= .returned (.bool (a6 (k::r)).2)∧Below w.heap.size w w5∧w.heap.size<w5.heap.size∧w5.heap[w.heap.size]?=some (.cells #[.string ⟨#[]⟩, .int .i64 0, .int .i64 0, .string ⟨#[]⟩, .string ⟨#[]⟩] 149 (0,0))∧((a6 (k::r)).2=true->w5.heap[w.heap.size+2]?=some (.cells (a6 (k::r)).1.cs 149 (0,0)))):=fun w2 s2 ZO ao cap bQ=>by
  obtain⟨b2,z0,z1⟩:=ZO;have b3:Below w2.heap.size w2 (w2.alloc (.cells (cs0 k) 149)):=(au _ _).alloc (af _) _;have z3:=heap_alloc_new w2 (.cells (cs0 k) 149);have s3:(w2.alloc (.cells (cs0 k) 149)).heap.size=w2.heap.size+1:=by simp
  rw[s2]at z3;generalize w2.alloc (.cells (cs0 k) 149)=w3 at*;have YF:=b2.trans (b3.mono b2.size);have z0':w3.heap[w.heap.size]?=_:=(b3.block w.heap.size (by omega)).trans z0;have z1':w3.heap[w.heap.size+1]?=_:=(b3.block (w.heap.size+1) (by omega)).trans z1;refine(take_any L (w.heap.size+2) k r ao (w.heap.size+1) cap w3 (hb.trans (YF.mono hB)) (by omega) (by omega) z3 (fun h=>⟨bQ h,by omega,by omega⟩) kS iA (fun i hi=> ?_)).mono ?_
  ·simp only[World.cell?,z1'];show(strs (k::r)).toArray[1+i]?=_;unfold strs;rw[Nat.add_comm];simp[hi]
  ·rintro e w5⟨rfl,ho,hp⟩;have h5:=ho.size;refine⟨rfl,⟨ho.os.trans YF.os,ho.tape.trans YF.tape,ho.output.trans YF.output,by omega,fun j hj=> ?_⟩,by omega, ?_,hp⟩
   ·rw[ho.block j (by omega) (by omega)];exact YF.block j hj
   ·rw[ho.block w.heap.size (by omega) (by omega)];exact z0'
 have Uc:Hid (gH s.data.toList=a6 (k::r)):=eR;clear eR hw ZJ kS L hb;cases Nx:(a6 (k::r)).2
 ·rw[Nx]at Uk;have LK:Hid ((a6 (k::r)).2=false):=Nx;clear Nx;generalize nJ:r.length=rl at*;clear nJ;unfold cs0 at Uk;go_enter func88,ntmps88;go_wp2_with fail;refine HSP.out.mono ?_;rintro e w2⟨rfl,c0,s2,Yk⟩;have RN:Hid (∀ao cap,_):=Uk.out w2 s2 Yk.out;clear HSP Uk Yk;go_wp2_with fail
  ·rename_i h;subst h;refine(RN.out (some ⟨w.heap.size+1,0,none⟩) 0 (fun h=>absurd h (by omega))).mono ?_;rintro e w5⟨rfl,IJ,hl5,z5,_⟩;have r0:w5.cell? ⟨w.heap.size,0,none⟩=some (.string ⟨#[]⟩):=by simp only[World.cell?,z5];rfl
   have f0:w5.frozen? ⟨w.heap.size,0,none⟩=false:=by simp only[World.frozen?,z5];simp
   have r1:w5.cell? ⟨w.heap.size,1,none⟩=some (.int .i64 0):=by simp only[World.cell?,z5];rfl
   have f1:w5.frozen? ⟨w.heap.size,1,none⟩=false:=by simp only[World.frozen?,z5];simp
   have r2:w5.cell? ⟨w.heap.size,2,none⟩=some (.int .i64 0):=by simp only[World.cell?,z5];rfl
   have f2:w5.frozen? ⟨w.heap.size,2,none⟩=false:=by simp only[World.frozen?,z5];simp
   have r3:w5.cell? ⟨w.heap.size,3,none⟩=some (.string ⟨#[]⟩):=by simp only[World.cell?,z5];rfl
   have f3:w5.frozen? ⟨w.heap.size,3,none⟩=false:=by simp only[World.frozen?,z5];simp
   have r4:w5.cell? ⟨w.heap.size,4,none⟩=some (.string ⟨#[]⟩):=by simp only[World.cell?,z5];rfl
   have f4:w5.frozen? ⟨w.heap.size,4,none⟩=false:=by simp only[World.frozen?,z5];simp
   have U1:Hid (Below w.heap.size w w5):=IJ;clear z5 IJ RN;go_wp2;refine bodyPost_ret (v:= .tuple #[.agg #[.string ⟨#[]⟩, .int .i64 0, .int .i64 0, .string ⟨#[]⟩, .string ⟨#[]⟩], .bool false]) (by simp[results,results88,go_sem, *]) rfl ⟨⟨[],0,0, [], []⟩,by rw[Uc.out,LK.out];rfl,fun h=>(by rw[Uc.out,LK.out]at h;cases h), ?_⟩;exact kj U1.out _ _ _ _ _
  ·refine(RN.out (some ⟨w.heap.size+1,1,none⟩) rl (fun _=>rfl)).mono ?_;rintro e w5⟨rfl,IJ,hl5,z5,_⟩;have r0:w5.cell? ⟨w.heap.size,0,none⟩=some (.string ⟨#[]⟩):=by simp only[World.cell?,z5];rfl
   have f0:w5.frozen? ⟨w.heap.size,0,none⟩=false:=by simp only[World.frozen?,z5];simp
   have r1:w5.cell? ⟨w.heap.size,1,none⟩=some (.int .i64 0):=by simp only[World.cell?,z5];rfl
   have f1:w5.frozen? ⟨w.heap.size,1,none⟩=false:=by simp only[World.frozen?,z5];simp
   have r2:w5.cell? ⟨w.heap.size,2,none⟩=some (.int .i64 0):=by simp only[World.cell?,z5];rfl
   have f2:w5.frozen? ⟨w.heap.size,2,none⟩=false:=by simp only[World.frozen?,z5];simp
   have r3:w5.cell? ⟨w.heap.size,3,none⟩=some (.string ⟨#[]⟩):=by simp only[World.cell?,z5];rfl
   have f3:w5.frozen? ⟨w.heap.size,3,none⟩=false:=by simp only[World.frozen?,z5];simp
   have r4:w5.cell? ⟨w.heap.size,4,none⟩=some (.string ⟨#[]⟩):=by simp only[World.cell?,z5];rfl
   have f4:w5.frozen? ⟨w.heap.size,4,none⟩=false:=by simp only[World.frozen?,z5];simp
   have U1:Hid (Below w.heap.size w w5):=IJ;clear z5 IJ RN;go_wp2;refine bodyPost_ret (v:= .tuple #[.agg #[.string ⟨#[]⟩, .int .i64 0, .int .i64 0, .string ⟨#[]⟩, .string ⟨#[]⟩], .bool false]) (by simp[results,results88,go_sem, *]) rfl ⟨⟨[],0,0, [], []⟩,by rw[Uc.out,LK.out];rfl,fun h=>(by rw[Uc.out,LK.out]at h;cases h), ?_⟩;exact kj U1.out _ _ _ _ _
 ·rw[Nx]at Uk;have LK:Hid ((a6 (k::r)).2=true):=Nx;clear Nx;generalize nJ:r.length=rl at*;clear nJ;unfold cs0 at Uk;generalize hM:(a6 (k::r)).1=M at*;have HM:Hid ((a6 (k::r)).1=M):=hM;clear hM;go_enter func88,ntmps88;go_wp2_with fail;refine HSP.out.mono ?_;rintro e w2⟨rfl,c0,s2,Yk⟩;have RN:Hid (∀ao cap,_):=Uk.out w2 s2 Yk.out;clear HSP Uk Yk;go_wp2_with fail
  ·rename_i h;subst h;refine(RN.out (some ⟨w.heap.size+1,0,none⟩) 0 (fun h=>absurd h (by omega))).mono ?_;rintro e w5⟨rfl,IJ,hl5,z5,q5⟩;have q5:=q5 (by first|rfl|trivial);have r0:w5.cell? ⟨w.heap.size,0,none⟩=some (.string ⟨#[]⟩):=by simp only[World.cell?,z5];rfl
   have f0:w5.frozen? ⟨w.heap.size,0,none⟩=false:=by simp only[World.frozen?,z5];simp
   have r1:w5.cell? ⟨w.heap.size,1,none⟩=some (.int .i64 0):=by simp only[World.cell?,z5];rfl
   have f1:w5.frozen? ⟨w.heap.size,1,none⟩=false:=by simp only[World.frozen?,z5];simp
   have r2:w5.cell? ⟨w.heap.size,2,none⟩=some (.int .i64 0):=by simp only[World.cell?,z5];rfl
   have f2:w5.frozen? ⟨w.heap.size,2,none⟩=false:=by simp only[World.frozen?,z5];simp
   have r3:w5.cell? ⟨w.heap.size,3,none⟩=some (.string ⟨#[]⟩):=by simp only[World.cell?,z5];rfl
   have f3:w5.frozen? ⟨w.heap.size,3,none⟩=false:=by simp only[World.frozen?,z5];simp
   have r4:w5.cell? ⟨w.heap.size,4,none⟩=some (.string ⟨#[]⟩):=by simp only[World.cell?,z5];rfl
   have f4:w5.frozen? ⟨w.heap.size,4,none⟩=false:=by simp only[World.frozen?,z5];simp
   have m0:w5.cell? ⟨w.heap.size+2,0,none⟩=some (.string ⟨M.kind.toArray⟩):=by simp only[World.cell?,q5];rfl
   have m1:w5.cell? ⟨w.heap.size+2,1,none⟩=some (.int .i64 M.id):=by simp only[World.cell?,q5];rfl
   have m2:w5.cell? ⟨w.heap.size+2,2,none⟩=some (.int .i64 M.bF):=by simp only[World.cell?,q5];rfl
   have m3:w5.cell? ⟨w.heap.size+2,3,none⟩=some (.string ⟨M.ten.toArray⟩):=by simp only[World.cell?,q5];rfl
   have m4:w5.cell? ⟨w.heap.size+2,4,none⟩=some (.string ⟨M.txt.toArray⟩):=by simp only[World.cell?,q5];rfl
   have U1:Hid (Below w.heap.size w w5):=IJ;clear z5 q5 IJ RN;go_wp2;refine bodyPost_ret (v:= .tuple #[.agg M.cs, .bool true]) (by simp[results,results88,go_sem,Mg.cs, *]) rfl ⟨M,by rw[Uc.out,LK.out],fun _=>(by rw[Uc.out,HM.out]), ?_⟩;exact kj U1.out _ _ _ _ _
  ·refine(RN.out (some ⟨w.heap.size+1,1,none⟩) rl (fun _=>rfl)).mono ?_;rintro e w5⟨rfl,IJ,hl5,z5,q5⟩;have q5:=q5 (by first|rfl|trivial);have r0:w5.cell? ⟨w.heap.size,0,none⟩=some (.string ⟨#[]⟩):=by simp only[World.cell?,z5];rfl
   have f0:w5.frozen? ⟨w.heap.size,0,none⟩=false:=by simp only[World.frozen?,z5];simp
   have r1:w5.cell? ⟨w.heap.size,1,none⟩=some (.int .i64 0):=by simp only[World.cell?,z5];rfl
   have f1:w5.frozen? ⟨w.heap.size,1,none⟩=false:=by simp only[World.frozen?,z5];simp
   have r2:w5.cell? ⟨w.heap.size,2,none⟩=some (.int .i64 0):=by simp only[World.cell?,z5];rfl
   have f2:w5.frozen? ⟨w.heap.size,2,none⟩=false:=by simp only[World.frozen?,z5];simp
   have r3:w5.cell? ⟨w.heap.size,3,none⟩=some (.string ⟨#[]⟩):=by simp only[World.cell?,z5];rfl
   have f3:w5.frozen? ⟨w.heap.size,3,none⟩=false:=by simp only[World.frozen?,z5];simp
   have r4:w5.cell? ⟨w.heap.size,4,none⟩=some (.string ⟨#[]⟩):=by simp only[World.cell?,z5];rfl
   have f4:w5.frozen? ⟨w.heap.size,4,none⟩=false:=by simp only[World.frozen?,z5];simp
   have m0:w5.cell? ⟨w.heap.size+2,0,none⟩=some (.string ⟨M.kind.toArray⟩):=by simp only[World.cell?,q5];rfl
   have m1:w5.cell? ⟨w.heap.size+2,1,none⟩=some (.int .i64 M.id):=by simp only[World.cell?,q5];rfl
   have m2:w5.cell? ⟨w.heap.size+2,2,none⟩=some (.int .i64 M.bF):=by simp only[World.cell?,q5];rfl
   have m3:w5.cell? ⟨w.heap.size+2,3,none⟩=some (.string ⟨M.ten.toArray⟩):=by simp only[World.cell?,q5];rfl
   have m4:w5.cell? ⟨w.heap.size+2,4,none⟩=some (.string ⟨M.txt.toArray⟩):=by simp only[World.cell?,q5];rfl
   have U1:Hid (Below w.heap.size w w5):=IJ;clear z5 q5 IJ RN;go_wp2;refine bodyPost_ret (v:= .tuple #[.agg M.cs, .bool true]) (by simp[results,results88,go_sem,Mg.cs, *]) rfl ⟨M,by rw[Uc.out,LK.out],fun _=>(by rw[Uc.out,HM.out]), ?_⟩;exact kj U1.out _ _ _ _ _
