import Derived.Test.YtffamlbkmjmipaaGreatDoorB07
import Derived.Test.YtffamlbkmjmipaaGreatDoorB08
import Derived.OwnWalk
set_option maxHeartbeats 8000000
set_option maxRecDepth 100000
namespace Go.Proofs.YtffamlbkmjmipaaGreatDoor
open _root_.Go.Proofs.Tryz
namespace aL
open Go.RowKit
attribute [local go_sem] ag ar
theorem Bt(s:ByteArray)(w:World)(hs:s.size<=1048576):Calls prog 84 #[.string s] w fun e w'=>e= .returned (.agg #[.int .u8 (sm s.data.toList s.size 0), .int .u8 (sm s.data.toList s.size 1), .int .u8 (sm s.data.toList s.size 2), .int .u8 (sm s.data.toList s.size 3)])∧Below w.heap.size w w':=by
 go_enter func84,ntmps84;go_wp2;go_loopw [7] (fun i wr=> ∃k n:Nat,k<=s.size∧i= .int .i64 k∧wr=((w.alloc (.cells #[.int .u8 0, .int .u8 0, .int .u8 0, .int .u8 0] 143)).alloc (.cells #[.int .u8 (sm s.data.toList k 0), .int .u8 (sm s.data.toList k 1), .int .u8 (sm s.data.toList k 2), .int .u8 (sm s.data.toList k 3)] 143)).drewN n) (fun i _=>s.size-(intOf i).toNat)
 case atStart=>exact⟨0,0,aJ _,rfl,rfl⟩
 case round=>
  obtain⟨k,n,hk,rfl,rfl⟩:=hrel;have b0:=gW s.data.toList k 0;have b1:=gW s.data.toList k 1;have b2:=gW s.data.toList k 2;have b3:=gW s.data.toList k 3;by_cases ay:k<s.size
  ·have rE:(s[k].toNat:Int)<=255:=by have:=s[k].toNat_lt;omega
   have hge:(s.data.toList[k]?.getD 0).toNat=s[k].toNat:=by rw[a7 (by simpa using ay)];rfl
   have hm:k %4=0∨k %4=1∨k %4=2∨k %4=3:=by omega
   have HG:Hid ((s.data.toList[k]?.getD 0).toNat=s[k].toNat):=hge;clear hge;rcases hm with hm|hm|hm|hm
   ·have XT:(k:Int) %4=0:=by omega
    have HK:Hid (k %4=0):=hm;clear hm;go_wp2
    go_region
    go_wp2;go_roundw
    case rel=>refine⟨k+1,n+1,by omega,by go_num, ?_⟩;have e:=HK.out;rw[mP _ _ 0 e,cE _ _ 1 (by omega),cE _ _ 2 (by omega),cE _ _ 3 (by omega),HG.out]
    case measure=>simp[intOf];omega
   ·have XT:(k:Int) %4=1:=by omega
    have HK:Hid (k %4=1):=hm;clear hm;go_wp2
    go_region
    go_wp2;go_roundw
    case rel=>refine⟨k+1,n+1,by omega,by go_num, ?_⟩;have e:=HK.out;rw[mP _ _ 1 e,cE _ _ 0 (by omega),cE _ _ 2 (by omega),cE _ _ 3 (by omega),HG.out]
    case measure=>simp[intOf];omega
   ·have XT:(k:Int) %4=2:=by omega
    have HK:Hid (k %4=2):=hm;clear hm;go_wp2
    go_region
    go_wp2;go_roundw
    case rel=>refine⟨k+1,n+1,by omega,by go_num, ?_⟩;have e:=HK.out;rw[mP _ _ 2 e,cE _ _ 0 (by omega),cE _ _ 1 (by omega),cE _ _ 3 (by omega),HG.out]
    case measure=>simp[intOf];omega
   ·have XT:(k:Int) %4=3:=by omega
    have HK:Hid (k %4=3):=hm;clear hm;go_wp2
    go_region
    go_wp2;go_roundw
    case rel=>refine⟨k+1,n+1,by omega,by go_num, ?_⟩;have e:=HK.out;rw[mP _ _ 3 e,cE _ _ 0 (by omega),cE _ _ 1 (by omega),cE _ _ 2 (by omega),HG.out]
    case measure=>simp[intOf];omega
  ·obtain rfl:k=s.size:=by omega
   go_wp2;refine bodyPost_ret (v:= .agg #[.int .u8 (sm s.data.toList s.size 0), .int .u8 (sm s.data.toList s.size 1), .int .u8 (sm s.data.toList s.size 2), .int .u8 (sm s.data.toList s.size 3)]) (by simp[results,results84,go_sem]) rfl ⟨rfl, ?_⟩;exact Below.ym (((ah _ _).alloc (ae _) _).alloc (by simp) _) n
theorem O1(x:Int)(h0:0<=x)(h1:x<=15)(h:x.toNat<(⟨#[48,49,50,51,52,53,54,55,56,57,97,98,99,100,101,102]⟩:ByteArray).size):((⟨#[48,49,50,51,52,53,54,55,56,57,97,98,99,100,101,102]⟩:ByteArray)[x.toNat]'h)=dg x:=by
 obtain⟨n,rfl⟩:=Int.eq_ofNat_of_zero_le h0;have hn:n<16:=by omega
 have e: ∀m:Fin 16,((⟨#[48,49,50,51,52,53,54,55,56,57,97,98,99,100,101,102]⟩:ByteArray)[((m.val:Int)).toNat]?).getD 0=dg (m.val:Int):=by decide+kernel
 have e1:((⟨#[48,49,50,51,52,53,54,55,56,57,97,98,99,100,101,102]⟩:ByteArray)[((n:Int)).toNat]?).getD 0=dg (n:Int):=e ⟨n,hn⟩;have e2:(⟨#[48,49,50,51,52,53,54,55,56,57,97,98,99,100,101,102]⟩:ByteArray)[((n:Int)).toNat]?=some ((⟨#[48,49,50,51,52,53,54,55,56,57,97,98,99,100,101,102]⟩:ByteArray)[((n:Int)).toNat]'h):=getElem?_pos (⟨#[48,49,50,51,52,53,54,55,56,57,97,98,99,100,101,102]⟩:ByteArray) _ h;rw[e2]at e1;exact e1
theorem ru(l:List UInt8)(x:Int)(h0:0<=x)(h1:x<=255)(p1:(x/16).toNat<(⟨#[48,49,50,51,52,53,54,55,56,57,97,98,99,100,101,102]⟩:ByteArray).size)(p2:(x %16).toNat<(⟨#[48,49,50,51,52,53,54,55,56,57,97,98,99,100,101,102]⟩:ByteArray).size):Lib.byteCells l++ [Value.int .u8 (((⟨#[48,49,50,51,52,53,54,55,56,57,97,98,99,100,101,102]⟩:ByteArray)[(x/16).toNat]'p1).toNat:Int)]++ [Value.int .u8 (((⟨#[48,49,50,51,52,53,54,55,56,57,97,98,99,100,101,102]⟩:ByteArray)[(x %16).toNat]'p2).toNat:Int)]=Lib.byteCells (l++two x):=by rw[O1 _ (by omega) (by omega),O1 _ (by omega) (by omega),Lib.byteCells_append];simp[Lib.byteCells,two]
theorem JF(a b c d:Int)(w:World)(ha:0<=a∧a<=255)(hb:0<=b∧b<=255)(hc:0<=c∧c<=255)(hd:0<=d∧d<=255):Calls prog 85 #[.agg #[.int .u8 a, .int .u8 b, .int .u8 c, .int .u8 d]] w fun e w'=>e= .returned (.string ⟨(two a++two b++two c++two d).toArray⟩)∧Below w.heap.size w w':=by
 have i0: ∀w:World,(Instr.index 143 (.agg #[.int .u8 a, .int .u8 b, .int .u8 c, .int .u8 d]) (.int .i64 0)).run prog w= .ok (.int .u8 a) w:=fun _=>by kernel_rfl
 have i1: ∀w:World,(Instr.index 143 (.agg #[.int .u8 a, .int .u8 b, .int .u8 c, .int .u8 d]) (.int .i64 1)).run prog w= .ok (.int .u8 b) w:=fun _=>by kernel_rfl
 have i2: ∀w:World,(Instr.index 143 (.agg #[.int .u8 a, .int .u8 b, .int .u8 c, .int .u8 d]) (.int .i64 2)).run prog w= .ok (.int .u8 c) w:=fun _=>by kernel_rfl
 have i3: ∀w:World,(Instr.index 143 (.agg #[.int .u8 a, .int .u8 b, .int .u8 c, .int .u8 d]) (.int .i64 3)).run prog w= .ok (.int .u8 d) w:=fun _=>by kernel_rfl
 go_enter func85,ntmps85;go_wp2;go_loopw [7] (fun i wr=> ∃(j:Nat) (l:List UInt8),j<=4∧l.length<=2*j∧i= .int .i64 j∧Lib.IsBuilderF 191 5 (w.heap.size+1) (w.heap.size+1) (Lib.byteCells l) wr∧Below (w.heap.size+1) (w.alloc (.cells #[.int .u8 a, .int .u8 b, .int .u8 c, .int .u8 d] 143)) wr∧l=(([a,b,c,d].take j).flatMap two)) (fun i _=>4-(intOf i).toNat)
 case atStart=>exact⟨0, [],by omega,by simp,rfl,Lib.IsBuilderF.of (by have h:=Lib.fresh_isBuilder 191 5 (w.alloc (.cells #[.int .u8 a, .int .u8 b, .int .u8 c, .int .u8 d] 143));simp only[World.size_alloc]at h;exact h),(ah _ _).alloc (by simp) _,rfl⟩
 case round=>
  obtain⟨j,l,hj,PN,rfl,hI,hB,hl⟩:=hrel;have cg:w.heap.size+1<=wr.heap.size:=by have:=hB.size;simpa using this
  have HL:Hid (l=(([a,b,c,d].take j).flatMap two)):=hl;clear hl;by_cases ay:j<4
  ·have hm:j=0∨j=1∨j=2∨j=3:=by omega
   rcases hm with rfl|rfl|rfl|rfl
   ·have q1:0<=a/16∧a/16<=15:=by omega
    have q2:0<=a %16∧a %16<=15:=by omega
    go_wp2_with fail;refine(Sp.fN (w.heap.size+1) (w.heap.size+1) (Lib.byteCells l) _ _ hI (by rw[Lib.byteCells_length];omega) cg).mono ?_;rintro e w1⟨rfl,h1,hb1,_⟩;have IB:w.heap.size+1<=w1.heap.size:=aw cg hb1.size;go_wp2_with fail;refine(Sp.fN (w.heap.size+1) (w.heap.size+1) _ _ _ (Or.inr h1) (by rw[aN,Lib.byteCells_length,List.length_singleton];omega) IB).mono ?_;rintro e w2⟨rfl,h2,bN,_⟩;rw[ru l a ha.1 ha.2]at h2;go_wp2;go_roundw
    case rel=>exact⟨0+1,l++two a,by omega,by rw[aN];simp only[two,List.length_cons,List.length_nil];omega,by go_num,Or.inr h2,(hB.trans hb1).trans bN,by rw[HL.out];simp⟩
    case measure=>simp[intOf]
   ·have q1:0<=b/16∧b/16<=15:=by omega
    have q2:0<=b %16∧b %16<=15:=by omega
    go_wp2_with fail;refine(Sp.fN (w.heap.size+1) (w.heap.size+1) (Lib.byteCells l) _ _ hI (by rw[Lib.byteCells_length];omega) cg).mono ?_;rintro e w1⟨rfl,h1,hb1,_⟩;have IB:w.heap.size+1<=w1.heap.size:=aw cg hb1.size;go_wp2_with fail;refine(Sp.fN (w.heap.size+1) (w.heap.size+1) _ _ _ (Or.inr h1) (by rw[aN,Lib.byteCells_length,List.length_singleton];omega) IB).mono ?_;rintro e w2⟨rfl,h2,bN,_⟩;rw[ru l b hb.1 hb.2]at h2;go_wp2;go_roundw
    case rel=>exact⟨1+1,l++two b,by omega,by rw[aN];simp only[two,List.length_cons,List.length_nil];omega,by go_num,Or.inr h2,(hB.trans hb1).trans bN,by rw[HL.out];simp⟩
    case measure=>simp[intOf]
   ·have q1:0<=c/16∧c/16<=15:=by omega
    have q2:0<=c %16∧c %16<=15:=by omega
    go_wp2_with fail;refine(Sp.fN (w.heap.size+1) (w.heap.size+1) (Lib.byteCells l) _ _ hI (by rw[Lib.byteCells_length];omega) cg).mono ?_;rintro e w1⟨rfl,h1,hb1,_⟩;have IB:w.heap.size+1<=w1.heap.size:=aw cg hb1.size;go_wp2_with fail;refine(Sp.fN (w.heap.size+1) (w.heap.size+1) _ _ _ (Or.inr h1) (by rw[aN,Lib.byteCells_length,List.length_singleton];omega) IB).mono ?_;rintro e w2⟨rfl,h2,bN,_⟩;rw[ru l c hc.1 hc.2]at h2;go_wp2;go_roundw
    case rel=>exact⟨2+1,l++two c,by omega,by rw[aN];simp only[two,List.length_cons,List.length_nil];omega,by go_num,Or.inr h2,(hB.trans hb1).trans bN,by rw[HL.out];simp⟩
    case measure=>simp[intOf]
   ·have q1:0<=d/16∧d/16<=15:=by omega
    have q2:0<=d %16∧d %16<=15:=by omega
    go_wp2_with fail;refine(Sp.fN (w.heap.size+1) (w.heap.size+1) (Lib.byteCells l) _ _ hI (by rw[Lib.byteCells_length];omega) cg).mono ?_;rintro e w1⟨rfl,h1,hb1,_⟩;have IB:w.heap.size+1<=w1.heap.size:=aw cg hb1.size;go_wp2_with fail;refine(Sp.fN (w.heap.size+1) (w.heap.size+1) _ _ _ (Or.inr h1) (by rw[aN,Lib.byteCells_length,List.length_singleton];omega) IB).mono ?_;rintro e w2⟨rfl,h2,bN,_⟩;rw[ru l d hd.1 hd.2]at h2;go_wp2;go_roundw
    case rel=>exact⟨3+1,l++two d,by omega,by rw[aN];simp only[two,List.length_cons,List.length_nil];omega,by go_num,Or.inr h2,(hB.trans hb1).trans bN,by rw[HL.out];simp⟩
    case measure=>simp[intOf]
  ·obtain rfl:j=4:=by omega
   go_wp2_with fail;refine(Builder_String_any_k (w.heap.size+1) (w.heap.size+1) l _ hI cg).mono ?_;rintro e w1⟨rfl,_,hb1,_⟩;go_wp2;go_ret;refine⟨by rw[HL.out];simp, ?_⟩;exact((ah _ _).alloc (ae _) _).trans ((hB.trans hb1).mono (Nat.le_succ _))
theorem XE(s:ByteArray):two (sm s.data.toList s.size 0)++two (sm s.data.toList s.size 1)++two (sm s.data.toList s.size 2)++two (sm s.data.toList s.size 3)=hex s.data.toList:=by
 have e:s.size=s.data.toList.length:=by simp
 rw[e];rfl
theorem Uw(s:ByteArray):s++(⟨#[32]⟩:ByteArray)++(⟨(two (sm s.data.toList s.size 0)++two (sm s.data.toList s.size 1)++two (sm s.data.toList s.size 2)++two (sm s.data.toList s.size 3)).toArray⟩:ByteArray)=⟨(line s.data.toList).toArray⟩:=by rw[Dd s 0,XE,jC];rfl
theorem uD(s:ByteArray)(w:World)(hs:s.size<=1048576):Calls prog 46 #[.string s] w fun e w'=>e= .returned (.string ⟨(line s.data.toList).toArray⟩)∧Below w.heap.size w w':=by
 go_enter func46,ntmps46;go_wp2_with fail;refine(Bt s _ hs).mono ?_;rintro e w1⟨rfl,hb1⟩;go_wp2_with fail;refine(JF _ _ _ _ _ (gW _ _ _) (gW _ _ _) (gW _ _ _) (gW _ _ _)).mono ?_;rintro e w2⟨rfl,bN⟩;have hl:(two (sm s.data.toList s.size 0)++two (sm s.data.toList s.size 1)++two (sm s.data.toList s.size 2)++two (sm s.data.toList s.size 3)).length<=8:=by simp[two]
 have HE:=Uw s;have HH:Hid (s++(⟨#[32]⟩:ByteArray)++(⟨(two (sm s.data.toList s.size 0)++two (sm s.data.toList s.size 1)++two (sm s.data.toList s.size 2)++two (sm s.data.toList s.size 3)).toArray⟩:ByteArray)=⟨(line s.data.toList).toArray⟩):=HE;clear HE;generalize two (sm s.data.toList s.size 0)++two (sm s.data.toList s.size 1)++two (sm s.data.toList s.size 2)++two (sm s.data.toList s.size 3)=hx at*;go_wp2;go_ret;exact⟨congrArg (fun x=>Ending.returned (.string x)) HH.out,hb1.trans (bN.mono hb1.size)⟩
theorem Rk(s:ByteArray)(w:World)(hs:s.size<=1048576):Calls prog 28 #[.string s] w fun e w'=>e= .returned (.string ⟨(line s.data.toList).toArray⟩)∧Below w.heap.size w w':=by go_enter func28,ntmps28;go_wp2_with fail;refine(uD s _ hs).mono ?_;rintro e w1⟨rfl,hb1⟩;go_wp2;go_ret;exact⟨rfl,hb1⟩
end aL
namespace bJ
open Go.RowKit
attribute [local go_sem] aL.ag aL.ar
variable{m:Nat}{done:List (List UInt8)}{last:List UInt8}
theorem B9:(prog.info? 9).map (fun i=>(i.zero,i.size,i.bytes))=some (some (.string ⟨#[]⟩),1,16):=by kernel_rfl
theorem Mw{w:World}{base g cap:Nat}(hn:done.length=m)(h:w.ownsRow base 9 1 (.slice (some ⟨g,0,none⟩) (m+1) cap) (m+1) (strs (done++ [last]))):w.cell? ⟨g,m,none⟩=some (.string ⟨last.toArray⟩):=by rw[h.cellAt m (by omega),mQ];rw[List.getElem?_append_right (by rw[uu];omega),uu,hn,Nat.sub_self];rfl
theorem Rm(done:List (List UInt8))(hm:done.length=m)(last new:List UInt8):(strs (done++ [last])).set m (.string ⟨new.toArray⟩)=strs (done++ [new]):=by subst hm;rw[mQ,mQ,List.set_append_right _ _ (by rw[uu];exact ae _),uu,Nat.sub_self];rfl
theorem LU(last:List UInt8)(s:ByteArray)(k:Nat)(h:k<s.size):(⟨last.toArray⟩:ByteArray)++s.extract k (k+1)=⟨(last++ [s[k]]).toArray⟩:=by rw[DJ s k h,aL.jC]
theorem O0(c:UInt8)(s:ByteArray)(k:Nat)(h:k<s.size)(hq:((s[k].toNat:Int)==(c.toNat:Int))=true)(hc:mV c (s.data.toList.take k)=(done,last)):mV c (s.data.toList.take (k+1))=(done++ [last], []):=by rw[take_snoc s k h,qF,hc,fx,if_pos];apply UInt8.toNat.inj;rw[beq_iff_eq]at hq;omega
theorem LC(c:UInt8)(s:ByteArray)(k:Nat)(h:k<s.size)(hq:((s[k].toNat:Int)==(c.toNat:Int))=false)(hc:mV c (s.data.toList.take k)=(done,last)):mV c (s.data.toList.take (k+1))=(done,last++ [s[k]]):=by rw[take_snoc s k h,qF,hc,fx,if_neg];intro e;rw[e]at hq;simp at hq
theorem Th(c:UInt8)(s:ByteArray)(hc:mV c (s.data.toList.take s.size)=(done,last)):bW c s.data.toList=done++ [last]:=by rw[nW]at hc;rw[bW,hc]
theorem BG(s:ByteArray)(c:UInt8)(w:World)(hs:s.size<=4194304):Calls prog 93 #[.string s, .int .u8 c.toNat] w fun e w'=> ∃g cap,e= .returned (.slice (some ⟨g,0,none⟩) (bW c s.data.toList).length cap)∧w.heap.size<=g∧w'.ownsRow w.heap.size 9 1 (.slice (some ⟨g,0,none⟩) (bW c s.data.toList).length cap) (bW c s.data.toList).length (strs (bW c s.data.toList))∧Below w.heap.size w w':=by
 obtain⟨i0,hi,gI,dN,fS⟩:=info_parts B9;go_enter func93,ntmps93;go_wp2;go_loopw [5,6] (fun o i wr=> ∃(k m g cap:Nat) (done:List (List UInt8)) (last:List UInt8),k<=s.size∧i= .int .i64 k∧o= .slice (some ⟨g,0,none⟩) (m+1) cap∧Hid (done.length=m)∧m<=k∧last.length<=k∧w.heap.size<=g∧
   wr.ownsRow w.heap.size 9 1 (.slice (some ⟨g,0,none⟩) (m+1) cap) (m+1) (strs (done++ [last]))∧Below w.heap.size w wr∧Hid (mV c (s.data.toList.take k)=(done,last))) (fun _ i _=>s.size-(intOf i).toNat)
 case atStart=>refine⟨0,0,w.heap.size,1, [], [],aJ _,rfl,rfl,rfl,by omega,by simp,ae _, ?_,(ah _ _).alloc (ae _) _,rfl⟩;exact World.ownsRow_lit w #[.string ⟨#[]⟩] 1 (ae _) (by decide) rfl
 case round=>
  obtain⟨k,m,g,cap,done,last,hk,rfl,rfl,HN,hmk,PN,Yf,a8,hB,HC⟩:=hrel;have hz:=hB.size;by_cases ay:k<s.size
  ·have rE:(s[k].toNat:Int)<=255:=by have:=s[k].toNat_lt;omega
   cases hq:((s[k].toNat:Int)==(c.toNat:Int))
   ·have D2:=Mw HN.out a8;have Zj:=a8.frozenAt m;have HE:Hid ((⟨last.toArray⟩:ByteArray)++s.extract k (k+1)=⟨(last++ [s[k]]).toArray⟩):=LU last s k ay;have HO:Hid (mV c (s.data.toList.take (k+1))=(done,last++ [s[k]])):=LC c s k ay hq HC.out;go_wp2
    go_region
    go_wp2;go_roundw
    case rel=>obtain⟨h1,h2⟩:=a8.stored m (.string ⟨(last++ [s[k]]).toArray⟩);rw[Rm done HN.out]at h1;rw[HE.out];exact⟨k+1,m,g,cap,done,last++ [s[k]],by omega,by go_num,rfl,HN,by omega,by simp;omega,Yf,h1,(hB.grown h2 hz (fun q hq=>by cases hq;exact Yf)).drew,HO⟩
    case measure=>simp[intOf];omega
   ·have HO:Hid (mV c (s.data.toList.take (k+1))=(done++ [last], [])):=O0 c s k ay hq HC.out;go_wp2_with (at_builtin;refine wpList_append_lies _ rfl _ _ 37 rfl w.heap.size 9 i0 (.string ⟨#[]⟩) 1 16 underlying37 hi gI dN fS rfl (by decide) _ _ _ rfl (a8.alloc _) ⟨wr.heap.size,0,none⟩ 1 1 [.string ⟨#[]⟩] rfl rfl ?c1 ?c2 (by decide) ?c3 ?c4 ?c5 (wr.heap.size+1) (by simp) ?_)
    case c1=>exact cell_one_new _ _ _
    case c2=>intro u hu;simp at hu;subst hu;rfl
    case c3=>unfold maxLen;omega
    case c4=>omega
    case c5=>simp;omega
    intro g1 kn w1 nE gR rD TX;have hB1:Below w.heap.size w w1:=(hB.alloc hz _).grown gR (by simp;omega) (fun q hq=>by simp[Value.ownBlock]at hq;omega);go_wp2;go_roundw
    case rel=>exact⟨k+1,m+1,g1,kn,done++ [last], [],by omega,by go_num,rfl,by show(done++ [last]).length=_;rw[aN,HN.out];rfl,by omega,by simp,by rcases rD with h|h;(·cases h;exact Yf);(·omega),by rw[mQ];exact nE,hB1,HO⟩
    case measure=>simp[intOf];omega
  ·obtain rfl:k=s.size:=by omega
   go_wp2;go_ret;have e:=Th c s HC.out;have e2:(done++ [last]).length=m+1:=by rw[aN,HN.out];rfl
   rw[e,e2];exact⟨g,cap,rfl,Yf,a8,hB⟩
end bJ
namespace bJ
open Go.RowKit
def nH(c:UInt8):Bool:=decide (48<=(c.toNat:Int)) &&decide ((c.toNat:Int)<=57)
def nA(l:List UInt8):Bool:=l.all nH
def kC(l:List UInt8):Int:=l.foldl (fun n c=>10*n+((c.toNat:Int)-48)) 0
theorem vF(l:List UInt8)(c:UInt8):kC (l++ [c])=10*kC l+((c.toNat:Int)-48):=by simp[kC,List.foldl_append]
theorem uT(l:List UInt8)(c:UInt8):nA (l++ [c])=(nA l &&nH c):=by simp[nA]
def cF(l:List UInt8):Int×Bool:=
 if decide (1<=l.length) &&decide (l.length<=6) && !(l.head?==some 48 &&decide (1<l.length)) &&nA l then(kC l,true)else(0,false)
theorem Ja(l:List UInt8)(h:l.length<1):cF l=(0,false):=by unfold cF;rw[if_neg];simp;omega
theorem MI(l:List UInt8)(h:6<l.length):cF l=(0,false):=by unfold cF;rw[if_neg];simp;omega
theorem head_eq(s:ByteArray)(h:0<s.size):s.data.toList.head?=some s[0]:=by
 have h':0<s.data.toList.length:=by simpa using h
 rw[List.head?_eq_getElem?,a7 h'];rfl
theorem abv{a:UInt8}{n:Nat}(hn:n<256)(h:((a.toNat:Int)==(n:Int))=true):a=n.toUInt8:=by
 apply UInt8.toNat.inj;rw[beq_iff_eq]at h;have e:(n.toUInt8).toNat=n:=by simp[Nat.toUInt8];omega
 rw[e];omega
theorem wj(s:ByteArray)(h1:1<s.size)(h:((s[0].toNat:Int)==48)=true):cF s.data.toList=(0,false):=by
 unfold cF;rw[if_neg];have e:s.data.toList.length=s.size:=by simp
 have e2:s[0]=48:=abv (n:=48) (by omega) h;rw[head_eq s (by omega),e2,e];simp;omega
theorem ub(l:List UInt8)(h:nA l=false):cF l=(0,false):=by unfold cF;rw[if_neg];simp[h]
theorem Cv(s:ByteArray)(h0:1<=s.size)(h6:s.size<=6)(h: ¬(1<s.size∧((s[0].toNat:Int)==48)=true))(hd:nA s.data.toList=true):cF s.data.toList=(kC s.data.toList,true):=by
 unfold cF;rw[if_pos];have e:s.data.toList.length=s.size:=by simp
 rw[head_eq s (by omega),e,hd];simp[h0,h6];by_cases e2:s[0]=48
 ·right;rw[e2]at h;simp at h;omega
 ·exact Or.inl e2
theorem xn(s:ByteArray)(k:Nat)(h:k<s.size)(hd:nH s[k]=false):nA s.data.toList=false:=by unfold nA;rw[List.all_eq_false];exact⟨s[k],by rw[show s[k]=s.data.toList[k]'(by simpa using h)from rfl];exact aY _,by rw[hd];decide⟩
theorem RL(l:List UInt8)(h:nA l=true):0<=kC l∧kC l<10 ^l.length:=by
 rw[<-List.reverse_reverse l]at h⊢;generalize l.reverse=r at h⊢
 induction r with
 |nil=>simp[kC]
 |cons c r ih=>rw[List.reverse_cons,uT,bZ]at h;have:=ih h.1;have h2:=h.2;simp only[nH,bZ,decide_eq_true_eq]at h2;rw[List.reverse_cons,vF,aN,List.length_singleton,Int.pow_succ];omega
theorem Bv(l:List UInt8)(k:Nat)(hk:k<=5)(h:nA (l.take k)=true):kC (l.take k)<=99999:=by
 have h1:=(RL _ h).2;have h2:(l.take k).length<=k:=List.length_take_le _ _;have h3:(10:Int) ^(l.take k).length<=10 ^5:=by
  have:(l.take k).length<=5:=by omega
  generalize(l.take k).length=n at this
  match n,this with
  |0,_=>decide
  |1,_=>decide
  |2,_=>decide
  |3,_=>decide
  |4,_=>decide
  |5,_=>decide
 omega
theorem kY{l:List UInt8}{n:Int}{b:Bool}(h:cF l=(n,b)):Ending.returned (.tuple #[.int .i64 n, .bool b])= .returned (.tuple #[.int .i64 (cF l).1, .bool (cF l).2]):=by rw[h]
theorem Jb(s:ByteArray)(w:World)(hs:s.size<=4194304):Calls prog 94 #[.string s] w fun e w'=>e= .returned (.tuple #[.int .i64 (cF s.data.toList).1, .bool (cF s.data.toList).2])∧w'=w:=by
 have e0:s.data.toList.length=s.size:=by simp
 by_cases h0:s.size<1
 ·have HF:Hid (cF s.data.toList=(0,false)):=Ja _ (by omega);clear e0;have h0i:(s.size:Int)<1:=by omega
  go_enter func94,ntmps94;go_wp2
  go_ret2
  exact⟨kY HF.out,rfl⟩
 by_cases h6:6<s.size
 ·have HF:Hid (cF s.data.toList=(0,false)):=MI _ (by omega);clear e0;go_enter func94,ntmps94;go_wp2
  go_ret2
  exact⟨kY HF.out,rfl⟩
 clear e0;have hp:0<s.size:=by omega
 cases hq:((s[0].toNat:Int)==48)
 ·have R9:decide ((s.size:Int)<1)=false:=by simp;omega
  have L4:decide (6<(s.size:Int))=false:=by simp;omega
  go_enter func94,ntmps94;go_wp2
  go_loop [4,5] (fun n i=> ∃k:Nat,k<=s.size∧i= .int .i64 k∧n= .int .i64 (kC (s.data.toList.take k))∧Hid (nA (s.data.toList.take k)=true)∧(0<=kC (s.data.toList.take k)∧kC (s.data.toList.take k)<=1000000*k)) (fun _ i=>s.size-(intOf i).toNat)
  case atStart=>exact⟨0,aJ _,rfl,rfl,rfl,by simp[kC]⟩
  case round=>
   obtain⟨k,hk,rfl,rfl,HD,hv0,Zp⟩:=hrel;by_cases ay:k<s.size
   ·have rE:(s[k].toNat:Int)<=255:=by have:=s[k].toNat_lt;omega
    have hvb:kC (s.data.toList.take k)<=99999:=Bv s.data.toList k (by omega) HD.out;by_cases Mh:(s[k].toNat:Int)<48
    ·have HF:Hid (cF s.data.toList=(0,false)):=ub _ (xn s k ay (by simp[nH];omega));go_wp2
     go_ret2
     exact⟨kY HF.out,rfl⟩
    by_cases hhi:57<(s[k].toNat:Int)
    ·have HF:Hid (cF s.data.toList=(0,false)):=ub _ (xn s k ay (by simp[nH];omega));have PC:decide ((s[k].toNat:Int)<48)=false:=by simpa using Mh
     go_wp2
     go_ret2
     exact⟨kY HF.out,rfl⟩
    ·have PC:decide ((s[k].toNat:Int)<48)=false:=by simpa using Mh
     have hd3:decide (57<(s[k].toNat:Int))=false:=by simpa using hhi
     have HS:Hid (kC (s.data.toList.take (k+1))=10*kC (s.data.toList.take k)+((s[k].toNat:Int)-48)):=by show _=_;rw[take_snoc s k ay,vF]
     have HD1:Hid (nA (s.data.toList.take (k+1))=true):=by show _=_;rw[take_snoc s k ay,uT,HD.out];simp[nH];omega
     go_wp2
     go_round
     case rel=>exact⟨k+1,by omega,by go_num,by rw[HS.out],HD1,by rw[HS.out];omega,by rw[HS.out];omega⟩
     case measure=>simp[intOf];omega
   ·obtain rfl:k=s.size:=by omega
    have HF:Hid (cF s.data.toList=(kC (s.data.toList.take s.size),true)):=by show _=_;rw[nW];exact Cv s (by omega) (by omega) (by rw[hq];simp) (by have:=HD.out;rwa[nW]at this)
    go_wp2
    go_ret2
    exact⟨kY HF.out,rfl⟩
 ·by_cases h1:1<s.size
  ·have HF:Hid (cF s.data.toList=(0,false)):=wj s h1 hq;go_enter func94,ntmps94;go_wp2
   go_ret2
   exact⟨kY HF.out,rfl⟩
  ·have R9:decide ((s.size:Int)<1)=false:=by simp;omega
   have L4:decide (6<(s.size:Int))=false:=by simp;omega
   have PC:decide (1<(s.size:Int))=false:=by simp;omega
   go_enter func94,ntmps94;go_wp2
   go_loop [4,5] (fun n i=> ∃k:Nat,k<=s.size∧i= .int .i64 k∧n= .int .i64 (kC (s.data.toList.take k))∧Hid (nA (s.data.toList.take k)=true)∧(0<=kC (s.data.toList.take k)∧kC (s.data.toList.take k)<=1000000*k)) (fun _ i=>s.size-(intOf i).toNat)
   case atStart=>exact⟨0,aJ _,rfl,rfl,rfl,by simp[kC]⟩
   case round=>
    obtain⟨k,hk,rfl,rfl,HD,hv0,Zp⟩:=hrel;by_cases ay:k<s.size
    ·have rE:(s[k].toNat:Int)<=255:=by have:=s[k].toNat_lt;omega
     have hvb:kC (s.data.toList.take k)<=99999:=Bv s.data.toList k (by omega) HD.out;by_cases Mh:(s[k].toNat:Int)<48
     ·have HF:Hid (cF s.data.toList=(0,false)):=ub _ (xn s k ay (by simp[nH];omega));go_wp2
      go_ret2
      exact⟨kY HF.out,rfl⟩
     by_cases hhi:57<(s[k].toNat:Int)
     ·have HF:Hid (cF s.data.toList=(0,false)):=ub _ (xn s k ay (by simp[nH];omega));have hd4:decide ((s[k].toNat:Int)<48)=false:=by simpa using Mh
      go_wp2
      go_ret2
      exact⟨kY HF.out,rfl⟩
     ·have hd4:decide ((s[k].toNat:Int)<48)=false:=by simpa using Mh
      have hd3:decide (57<(s[k].toNat:Int))=false:=by simpa using hhi
      have HS:Hid (kC (s.data.toList.take (k+1))=10*kC (s.data.toList.take k)+((s[k].toNat:Int)-48)):=by show _=_;rw[take_snoc s k ay,vF]
      have HD1:Hid (nA (s.data.toList.take (k+1))=true):=by show _=_;rw[take_snoc s k ay,uT,HD.out];simp[nH];omega
      go_wp2
      go_round
      case rel=>exact⟨k+1,by omega,by go_num,by rw[HS.out],HD1,by rw[HS.out];omega,by rw[HS.out];omega⟩
      case measure=>simp[intOf];omega
    ·obtain rfl:k=s.size:=by omega
     have HF:Hid (cF s.data.toList=(kC (s.data.toList.take s.size),true)):=by show _=_;rw[nW];exact Cv s (by omega) (by omega) (by omega) (by have:=HD.out;rwa[nW]at this)
     go_wp2
     go_ret2
     exact⟨kY HF.out,rfl⟩
variable{l:List UInt8}{f i:Nat}{xs:List Int}
def byteAt(l:List UInt8)(i:Nat):Int:=((l[i]?.getD 0).toNat:Int)
def kq(l:List UInt8)(i:Nat):Bool:=decide (128<=byteAt l i) &&decide (byteAt l i<=191)
def two'(l:List UInt8)(i:Nat):Int:=64*(byteAt l i %32)+byteAt l (i+1) %64
def kB(l:List UInt8)(i:Nat):Int:=64*(64*(byteAt l i %16)+byteAt l (i+1) %64)+byteAt l (i+2) %64
def dH(l:List UInt8)(i:Nat):Option (Int×Nat):=
 if byteAt l i<128 then some (byteAt l i,1)
 else if 194<=byteAt l i∧byteAt l i<224 then(if i+2<=l.length∧kq l (i+1)=true then some (two' l i,2)else none)
 else if 224<=byteAt l i∧byteAt l i<240 then(if i+3<=l.length∧kq l (i+1)=true∧kq l (i+2)=true∧ ¬(kB l i<2048∨55296<=kB l i∧kB l i<57344)then some (kB l i,3)else none)
 else none
def fD(la:Nat->Option (Int×Nat))(len:Nat):Nat->Nat->Option (List Int)
 |0,i=>if i<len then none else some []
 |f+1,i=>if i<len then(match la i with|none=>none|some (c,n)=>(fD la len f (i+n)).map (c:: ·))else some []
section
variable{la:Nat->Option (Int×Nat)}{len:Nat}
theorem qT(f i:Nat)(h: ¬i<len):fD la len f i=some []:=by cases f<;>simp[fD,h]
theorem sL(f i:Nat)(h:i<len)(hn:la i=none):fD la len f i=none:=by cases f<;>simp[fD,h,hn]
theorem oN(f i n:Nat)(c:Int)(h:i<len)(hn:la i=some (c,n)):fD la len (f+1) i=(fD la len f (i+n)).map (c:: ·):=by simp[fD,h,hn]
theorem ME(o:Option (List Int))(xs:List Int)(c:Int):(o.map (c:: ·)).map (xs++ ·)=o.map ((xs++ [c])++ ·):=by cases o<;>simp
theorem LQ{R:Option (List Int)}{f i:Nat}{xs:List Int}(hr:R=(fD la len f i).map (xs++ ·))(h:i<len)(hn:la i=none):R=none:=by rw[hr,sL f i h hn];rfl
theorem LR{R:Option (List Int)}{f i n:Nat}{c:Int}{xs:List Int}(hr:R=(fD la len (f+1) i).map (xs++ ·))(h:i<len)(hn:la i=some (c,n)):R=(fD la len f (i+n)).map ((xs++ [c])++ ·):=by rw[hr,oN f i n c h hn,ME]
theorem Pk{R:Option (List Int)}{f i:Nat}{xs:List Int}(hr:R=(fD la len f i).map (xs++ ·))(h: ¬i<len):R=some xs:=by rw[hr,qT f i h];simp
end
def gT(l:List UInt8)(f i:Nat):Option (List Int):=fD (dH l) l.length f i
def lets(l:List UInt8):Option (List Int):=gT l l.length 0
theorem fE(hr:lets l=(gT l f i).map (xs++ ·))(h:i<l.length)(hn:dH l i=none):lets l=none:=LQ hr h hn
theorem nM{n:Nat}{c:Int}(hr:lets l=(gT l (f+1) i).map (xs++ ·))(h:i<l.length)(hn:dH l i=some (c,n)):lets l=(gT l f (i+n)).map ((xs++ [c])++ ·):=LR hr h hn
theorem EM(hr:lets l=(gT l f i).map (xs++ ·))(h: ¬i<l.length):lets l=some xs:=Pk hr h
theorem Be(l:List UInt8)(i:Nat)(h:byteAt l i<128):dH l i=some (byteAt l i,1):=if_pos h
theorem Mx(l:List UInt8)(i:Nat)(h0:128<=byteAt l i)(h:byteAt l i<194∨240<=byteAt l i):dH l i=none:=by unfold dH;rw[if_neg (by omega),if_neg (by omega),if_neg (by omega)]
theorem vp(l:List UInt8)(i:Nat)(h0:194<=byteAt l i)(h1:byteAt l i<224):dH l i=if i+2<=l.length∧kq l (i+1)=true then some (two' l i,2)else none:=by unfold dH;rw[if_neg (by omega),if_pos ⟨h0,h1⟩]
theorem j8(l:List UInt8)(i:Nat)(h0:224<=byteAt l i)(h1:byteAt l i<240):dH l i=if i+3<=l.length∧kq l (i+1)=true∧kq l (i+2)=true∧ ¬(kB l i<2048∨55296<=kB l i∧kB l i<57344)then some (kB l i,3)else none:=by unfold dH;rw[if_neg (by omega),if_neg (by omega),if_pos ⟨h0,h1⟩]
theorem cQ(s:ByteArray)(i:Nat)(h:i<s.size):byteAt s.data.toList i=(s[i].toNat:Int):=by unfold byteAt;rw[a7 (by simpa using h)];rfl
theorem uR(l:List UInt8)(i:Nat):0<=byteAt l i∧byteAt l i<=255:=by unfold byteAt;have:=(l[i]?.getD 0).toNat_lt;omega
theorem uZ(h:byteAt l i<128∨191<byteAt l i):kq l i=false:=by simp[kq];omega
theorem sA(h0:128<=byteAt l i)(h1:byteAt l i<=191):kq l i=true:=by simp[kq,h0,h1]
section
variable(s:ByteArray)(i:Nat)
theorem slen:s.data.toList.length=s.size:=by simp
theorem Uu(h:i<s.size)(hc:(s[i].toNat:Int)<128):dH s.data.toList i=some ((s[i].toNat:Int),1):=by have q:=cQ s i h;rw[Be _ _ (by rw[q];exact hc),q]
theorem Us(h:i<s.size)(h0: ¬(s[i].toNat:Int)<128)(hc:(s[i].toNat:Int)<194∨240<=(s[i].toNat:Int)):dH s.data.toList i=none:=by have q:=cQ s i h;exact Mx _ _ (by rw[q];omega) (by rw[q];exact hc)
theorem Au(h:i<s.size)(h0:194<=(s[i].toNat:Int))(h1:(s[i].toNat:Int)<224)(hs:s.size<i+2):dH s.data.toList i=none:=by have q:=cQ s i h;rw[vp _ _ (by rw[q];exact h0) (by rw[q];exact h1),if_neg];rw[slen];omega
theorem wh(h:i+1<s.size)(h0:194<=(s[i].toNat:Int))(h1:(s[i].toNat:Int)<224)(hd:(s[i+1].toNat:Int)<128∨191<(s[i+1].toNat:Int)):dH s.data.toList i=none:=by have q:=cQ s i (by omega);have q1:=cQ s (i+1) h;rw[vp _ _ (by rw[q];exact h0) (by rw[q];exact h1),if_neg];rw[uZ (by rw[q1];exact hd)];simp
theorem IW(h:i+1<s.size)(h0:194<=(s[i].toNat:Int))(h1:(s[i].toNat:Int)<224)(hd:128<=(s[i+1].toNat:Int))(PC:(s[i+1].toNat:Int)<=191):dH s.data.toList i=some (64*((s[i].toNat:Int) %32)+(s[i+1].toNat:Int) %64,2):=by have q:=cQ s i (by omega);have q1:=cQ s (i+1) h;rw[vp _ _ (by rw[q];exact h0) (by rw[q];exact h1),if_pos ⟨by rw[slen];omega,sA (by rw[q1];exact hd) (by rw[q1];exact PC)⟩,two',q,q1]
theorem Mz(h:i+1<s.size)(h0:194<=(s[i].toNat:Int))(h1:(s[i].toNat:Int)<224)(hd: ¬(s[i+1].toNat:Int)<128)(PC: ¬191<(s[i+1].toNat:Int)){v:Int}(hv:v=64*((s[i].toNat:Int) %32)+(s[i+1].toNat:Int) %64):dH s.data.toList i=some (v,2):=by rw[IW s i h h0 h1 (by omega) (by omega),hv]
theorem wY(h:i<s.size)(h0:224<=(s[i].toNat:Int))(h1:(s[i].toNat:Int)<240)(hs:s.size<i+3):dH s.data.toList i=none:=by have q:=cQ s i h;rw[j8 _ _ (by rw[q];exact h0) (by rw[q];exact h1),if_neg];rw[slen];omega
theorem qi(h:i+2<s.size)(h0:224<=(s[i].toNat:Int))(h1:(s[i].toNat:Int)<240)(hd:(s[i+1].toNat:Int)<128∨191<(s[i+1].toNat:Int)):dH s.data.toList i=none:=by have q:=cQ s i (by omega);have q1:=cQ s (i+1) (by omega);rw[j8 _ _ (by rw[q];exact h0) (by rw[q];exact h1),if_neg];rw[uZ (by rw[q1];exact hd)];simp
theorem qj(h:i+2<s.size)(h0:224<=(s[i].toNat:Int))(h1:(s[i].toNat:Int)<240)(hd:(s[i+2].toNat:Int)<128∨191<(s[i+2].toNat:Int)):dH s.data.toList i=none:=by have q:=cQ s i (by omega);have q1:=cQ s (i+2) h;rw[j8 _ _ (by rw[q];exact h0) (by rw[q];exact h1),if_neg];rw[uZ (l:=s.data.toList) (i:=i+2) (by rw[q1];exact hd)];simp
def Vg(a b c:Int):Int:=64*(64*(a %16)+b %64)+c %64
theorem Gq(h:i+2<s.size):kB s.data.toList i=Vg (s[i].toNat:Int) (s[i+1].toNat:Int) (s[i+2].toNat:Int):=by rw[kB,cQ s i (by omega),cQ s (i+1) (by omega),cQ s (i+2) h];rfl
theorem yU(h:i+2<s.size)(h0:224<=(s[i].toNat:Int))(h1:(s[i].toNat:Int)<240)(hv:Vg (s[i].toNat:Int) (s[i+1].toNat:Int) (s[i+2].toNat:Int)<2048∨55296<=Vg (s[i].toNat:Int) (s[i+1].toNat:Int) (s[i+2].toNat:Int)∧Vg (s[i].toNat:Int) (s[i+1].toNat:Int) (s[i+2].toNat:Int)<57344):dH s.data.toList i=none:=by have q:=cQ s i (by omega);rw[j8 _ _ (by rw[q];exact h0) (by rw[q];exact h1),if_neg];rw[Gq s i h];intro hh;exact hh.2.2.2 hv
theorem Ch(h:i+2<s.size)(h0:224<=(s[i].toNat:Int))(h1:(s[i].toNat:Int)<240)(hd:128<=(s[i+1].toNat:Int))(L4:(s[i+1].toNat:Int)<=191)(PC:128<=(s[i+2].toNat:Int))(hd3:(s[i+2].toNat:Int)<=191)(hv: ¬(Vg (s[i].toNat:Int) (s[i+1].toNat:Int) (s[i+2].toNat:Int)<2048∨55296<=Vg (s[i].toNat:Int) (s[i+1].toNat:Int) (s[i+2].toNat:Int)∧Vg (s[i].toNat:Int) (s[i+1].toNat:Int) (s[i+2].toNat:Int)<57344)):dH s.data.toList i=some (Vg (s[i].toNat:Int) (s[i+1].toNat:Int) (s[i+2].toNat:Int),3):=by have q:=cQ s i (by omega);have q1:=cQ s (i+1) (by omega);have q2:=cQ s (i+2) h;rw[j8 _ _ (by rw[q];exact h0) (by rw[q];exact h1),Gq s i h,if_pos ⟨by rw[slen];omega,sA (by rw[q1];exact hd) (by rw[q1];exact L4),sA (by rw[q2];exact PC) (by rw[q2];exact hd3),hv⟩]
theorem EJ(h:i+2<s.size)(h0:224<=(s[i].toNat:Int))(h1:(s[i].toNat:Int)<240)(hd: ¬(s[i+1].toNat:Int)<128)(L4: ¬191<(s[i+1].toNat:Int))(PC: ¬(s[i+2].toNat:Int)<128)(hd3: ¬191<(s[i+2].toNat:Int)){v1 v:Int}(Zp:v1=64*((s[i].toNat:Int) %16)+(s[i+1].toNat:Int) %64)(hv:v=64*v1+(s[i+2].toNat:Int) %64):((v<2048∨55296<=v∧v<57344)->dH s.data.toList i=none)∧(¬(v<2048∨55296<=v∧v<57344)->dH s.data.toList i=some (v,3)):=by
 have e:v=Vg (s[i].toNat:Int) (s[i+1].toNat:Int) (s[i+2].toNat:Int):=by rw[hv,Zp];rfl
 rw[e];exact⟨fun hh=>yU s i h h0 h1 hh,fun hh=>Ch s i h h0 h1 (by omega) (by omega) (by omega) (by omega) hh⟩
end
def ints(l:List Int):List Value:=l.map fun x=> .int .i64 x
theorem qR(l:List Int)(c:Int):ints (l++ [c])=ints l++ [.int .i64 c]:=by simp[ints]
theorem Ui:(prog.info? 3).map (fun i=>(i.zero,i.size,i.bytes))=some (some (.int .i64 0),1,8):=by kernel_rfl
def Dc(l:List UInt8)(w:World)(e:Ending)(w':World):Prop:=
 (lets l=none∧e= .returned (.tuple #[.slice none 0 0, .bool false])∧Below w.heap.size w w')∨
 (∃xs v,lets l=some xs∧e= .returned (.tuple #[v, .bool true])∧w'.ownsRow w.heap.size 3 1 v xs.length (ints xs)∧Below w.heap.size w w')
def cX:Prop:= ∀(s:ByteArray) (w:World),s.size<=4194304->Calls prog 144 #[.string s] w (Dc s.data.toList w)
variable{w:World}{base n most:Nat}{xs:List Int}{p:Int->Bool}{l:List UInt8}
def iZ(c:Int):Bool:=(decide (97<=c) &&decide (c<=122))||(decide (945<=c) &&decide (c<=969))
def ja(c:Int):Bool:=(decide (33<=c) &&decide (c<=126))||(decide (161<=c) &&decide (c<=65535))
def iG(p:Int->Bool)(most:Nat)(l:List UInt8):Bool:=match lets l with
 |some xs=>xs.all p &&decide (1<=xs.length) &&decide (xs.length<=most)
 |none=>false
def ux(l:List UInt8):Bool:=iG iZ 6 l
def m6(l:List UInt8):Bool:=iG ja 12 l
theorem shape{e:TypeId}{size:Nat}{v:Value}{xs:List Value}(h:w.ownsRow base e size v n xs): ∃ao cap,v= .slice ao n cap∧(0<n-> ∃g,ao=some ⟨g,0,none⟩∧base<=g):=by
 rcases h.2 with⟨rfl,rfl⟩|⟨g,cap,cur,rfl,hb,_⟩
 ·exact⟨none,0,rfl,fun h=>absurd h (by omega)⟩
 ·exact⟨_,cap,rfl,fun _=>⟨g,rfl,hb⟩⟩
theorem Er{g cap:Nat}(h:w.ownsRow base 3 1 (.slice (some ⟨g,0,none⟩) n cap) n (ints xs)){k:Nat}(hk:k<n)(hn:n=xs.length):w.cell? ⟨g,k,none⟩=some (.int .i64 (xs.getD k 0)):=by subst hn;rw[h.cellAt k (by omega),ints,List.getElem?_map,a7 hk];simp[hk]
theorem Dh(p:Int->Bool)(xs:List Int)(k:Nat)(h:k<xs.length):(xs.take (k+1)).all p=((xs.take k).all p &&p (xs.getD k 0)):=by rw[fp h,List.all_append];simp[h]
theorem l7(h:lets l=some xs):iG p most l=(xs.all p &&decide (1<=xs.length) &&decide (xs.length<=most)):=by unfold iG;rw[h]
theorem pk(h:lets l=none):iG p most l=false:=by unfold iG;rw[h]
theorem Pc(n most:Nat)(m:Int)(hm:m=(most:Int))(h1:1<=n):decide ((n:Int)<=m)=(true &&decide (1<=n) &&decide (n<=most)):=by subst hm;simp[h1]
theorem cO{a b:Bool}(h:a=b):Ending.returned (.bool a)= .returned (.bool b):=by rw[h]
theorem Bf{la:Nat->Option (Int×Nat)}{len:Nat}: ∀(f i:Nat) (xs:List Int),fD la len f i=some xs->xs.length<=f
 |0,i,xs,h=>by
  unfold fD at h;split at h
  ·cases h
  ·cases h;simp
 |f+1,i,xs,h=>by
  unfold fD at h;split at h
  ·split at h
   ·cases h
   ·rename_i c n _;cases hr:fD la len f (i+n)with
    |none=>rw[hr]at h;cases h
    |some ys=>rw[hr]at h;cases h;have:=Bf f (i+n) ys hr;simp;omega
  ·cases h;simp
theorem EN{s:ByteArray}(h:lets s.data.toList=some xs)(hs:s.size<=4194304):xs.length<=1000000000:=by have:=Bf _ _ xs h;rw[slen]at this;omega
theorem sZ(vI:cX)(s:ByteArray)(w:World)(hs:s.size<=4194304):Calls prog 96 #[.string s] w fun e w'=>e= .returned (.bool (ux s.data.toList))∧Below w.heap.size w w':=by
 go_enter func96,ntmps96;go_wp2_with fail;refine(vI s _ hs).mono ?_;rintro e w1(⟨hl,rfl,hb1⟩|⟨xs,v,hl,rfl,a8,hb1⟩)
 ·have HL:Hid (ux s.data.toList=false):=pk hl;clear hl;go_wp2
  go_loop [4,14] (fun o i=>o= .bool false∧i= .int .i64 0) (fun _ _=>0)
  case atStart=>exact⟨rfl,rfl⟩
  case round=>obtain⟨rfl,rfl⟩:=hrel;go_wp2;go_ret;exact⟨cO HL.out.symm,hb1⟩
 ·have HL:Hid (ux s.data.toList=(xs.all iZ &&decide (1<=xs.length) &&decide (xs.length<=6))):=l7 hl;have IC:xs.length<=1000000000:=EN hl hs;clear hl;obtain⟨ao,cap,rfl,bI⟩:=shape a8;have fT:Hid (0<xs.length-> ∃g,ao=some ⟨g,0,none⟩∧w.heap.size<=g):=bI;clear bI;go_wp2
  go_loop [4,14] (fun o i=> ∃(k:Nat) (bb:Bool),k<=xs.length∧i= .int .i64 k∧o= .bool bb∧Hid (bb=(xs.take k).all iZ)) (fun _ i=>xs.length-(intOf i).toNat)
  case atStart=>exact⟨0,true,aJ _,rfl,rfl,rfl⟩
  case round=>
   obtain⟨k,bb,hk,rfl,rfl,HB⟩:=hrel;by_cases ay:k<xs.length
   ·obtain⟨g,rfl,_⟩:=fT.out (by omega);have D2:=Er a8 ay rfl;have HS:Hid ((xs.take (k+1)).all iZ=(bb &&iZ (xs.getD k 0))):=by rw[HB.out];exact Dh _ _ _ ay
    clear a8;generalize xs.getD k 0=c at*;cases bb
    ·go_wp2
     go_round
     case rel=>exact⟨k+1,false,by omega,by go_num,rfl,by rw[HS.out];rfl⟩
     case measure=>simp[intOf];omega
    ·have hcs:(c<97)∨(97<=c∧c<=122)∨(122<c∧c<945)∨(945<=c∧c<=969)∨(969<c):=by omega
     rcases hcs with hq|hq|hq|hq|hq
     ·have HP:Hid (iZ c=false):=by simp[iZ,Hid];omega
      have adA:decide (97<=c)=false:=by simp;omega
      have aaG:decide (945<=c)=false:=by simp;omega
      go_wp2
      go_round
      case rel=>exact⟨k+1,false,by omega,by go_num,rfl,by rw[HS.out,HP.out];rfl⟩
      case measure=>simp[intOf];omega
     ·have HP:Hid (iZ c=true):=by simp[iZ,Hid];omega
      obtain⟨ng,qN⟩:=hq;go_wp2
      go_round
      case rel=>exact⟨k+1,true,by omega,by go_num,rfl,by rw[HS.out,HP.out];rfl⟩
      case measure=>simp[intOf];omega
     ·have HP:Hid (iZ c=false):=by simp[iZ,Hid];omega
      obtain⟨ng,qN⟩:=hq;have VR:decide (c<=122)=false:=by simp;omega
      have aaG:decide (945<=c)=false:=by simp;omega
      go_wp2
      go_round
      case rel=>exact⟨k+1,false,by omega,by go_num,rfl,by rw[HS.out,HP.out];rfl⟩
      case measure=>simp[intOf];omega
     ·have HP:Hid (iZ c=true):=by simp[iZ,Hid];omega
      obtain⟨ng,qN⟩:=hq;have VR:decide (c<=122)=false:=by simp;omega
      go_wp2
      go_round
      case rel=>exact⟨k+1,true,by omega,by go_num,rfl,by rw[HS.out,HP.out];rfl⟩
      case measure=>simp[intOf];omega
     ·have HP:Hid (iZ c=false):=by simp[iZ,Hid];omega
      have VR:decide (c<=122)=false:=by simp;omega
      have adf:decide (c<=969)=false:=by simp;omega
      go_wp2
      go_round
      case rel=>exact⟨k+1,false,by omega,by go_num,rfl,by rw[HS.out,HP.out];rfl⟩
      case measure=>simp[intOf];omega
   ·obtain rfl:k=xs.length:=by omega
    have HT:Hid (ux s.data.toList=(bb &&decide (1<=xs.length) &&decide (xs.length<=6))):=by rw[HL.out,HB.out,List.take_length];rfl
    cases bb
    ·go_wp2;go_ret;exact⟨cO (by rw[HT.out];rfl),hb1⟩
    ·by_cases h1:1<=xs.length
     ·have h1d:decide (1<=(xs.length:Int))=true:=by simp;omega
      go_wp2;go_ret;exact⟨cO (by rw[HT.out];exact Pc _ _ _ rfl h1),hb1⟩
     ·have h1d:decide (1<=(xs.length:Int))=false:=by simp;omega
      go_wp2;go_ret;exact⟨cO (by rw[HT.out];simp[h1]),hb1⟩
theorem Gn(vI:cX)(s:ByteArray)(w:World)(hs:s.size<=4194304):Calls prog 95 #[.string s] w fun e w'=>e= .returned (.bool (m6 s.data.toList))∧Below w.heap.size w w':=by
 go_enter func95,ntmps95;go_wp2_with fail;refine(vI s _ hs).mono ?_;rintro e w1(⟨hl,rfl,hb1⟩|⟨xs,v,hl,rfl,a8,hb1⟩)
 ·have HL:Hid (m6 s.data.toList=false):=pk hl;clear hl;go_wp2
  go_loop [4,14] (fun o i=>o= .bool false∧i= .int .i64 0) (fun _ _=>0)
  case atStart=>exact⟨rfl,rfl⟩
  case round=>obtain⟨rfl,rfl⟩:=hrel;go_wp2;go_ret;exact⟨cO HL.out.symm,hb1⟩
 ·have HL:Hid (m6 s.data.toList=(xs.all ja &&decide (1<=xs.length) &&decide (xs.length<=12))):=l7 hl;have IC:xs.length<=1000000000:=EN hl hs;clear hl;obtain⟨ao,cap,rfl,bI⟩:=shape a8;have fT:Hid (0<xs.length-> ∃g,ao=some ⟨g,0,none⟩∧w.heap.size<=g):=bI;clear bI;go_wp2
  go_loop [4,14] (fun o i=> ∃(k:Nat) (bb:Bool),k<=xs.length∧i= .int .i64 k∧o= .bool bb∧Hid (bb=(xs.take k).all ja)) (fun _ i=>xs.length-(intOf i).toNat)
  case atStart=>exact⟨0,true,aJ _,rfl,rfl,rfl⟩
  case round=>
   obtain⟨k,bb,hk,rfl,rfl,HB⟩:=hrel;by_cases ay:k<xs.length
   ·obtain⟨g,rfl,_⟩:=fT.out (by omega);have D2:=Er a8 ay rfl;have HS:Hid ((xs.take (k+1)).all ja=(bb &&ja (xs.getD k 0))):=by rw[HB.out];exact Dh _ _ _ ay
    clear a8;generalize xs.getD k 0=c at*;cases bb
    ·go_wp2
     go_round
     case rel=>exact⟨k+1,false,by omega,by go_num,rfl,by rw[HS.out];rfl⟩
     case measure=>simp[intOf];omega
    ·have hcs:(c<33)∨(33<=c∧c<=126)∨(126<c∧c<161)∨(161<=c∧c<=65535)∨(65535<c):=by omega
     rcases hcs with hq|hq|hq|hq|hq
     ·have HP:Hid (ja c=false):=by simp[ja,Hid];omega
      have adz:decide (33<=c)=false:=by simp;omega
      have aaF:decide (161<=c)=false:=by simp;omega
      go_wp2
      go_round
      case rel=>exact⟨k+1,false,by omega,by go_num,rfl,by rw[HS.out,HP.out];rfl⟩
      case measure=>simp[intOf];omega
     ·have HP:Hid (ja c=true):=by simp[ja,Hid];omega
      obtain⟨ng,qN⟩:=hq;go_wp2
      go_round
      case rel=>exact⟨k+1,true,by omega,by go_num,rfl,by rw[HS.out,HP.out];rfl⟩
      case measure=>simp[intOf];omega
     ·have HP:Hid (ja c=false):=by simp[ja,Hid];omega
      obtain⟨ng,qN⟩:=hq;have VS:decide (c<=126)=false:=by simp;omega
      have aaF:decide (161<=c)=false:=by simp;omega
      go_wp2
      go_round
      case rel=>exact⟨k+1,false,by omega,by go_num,rfl,by rw[HS.out,HP.out];rfl⟩
      case measure=>simp[intOf];omega
     ·have HP:Hid (ja c=true):=by simp[ja,Hid];omega
      obtain⟨ng,qN⟩:=hq;have VS:decide (c<=126)=false:=by simp;omega
      go_wp2
      go_round
      case rel=>exact⟨k+1,true,by omega,by go_num,rfl,by rw[HS.out,HP.out];rfl⟩
      case measure=>simp[intOf];omega
     ·have HP:Hid (ja c=false):=by simp[ja,Hid];omega
      have VS:decide (c<=126)=false:=by simp;omega
      have abx:decide (c<=65535)=false:=by simp;omega
      go_wp2
      go_round
      case rel=>exact⟨k+1,false,by omega,by go_num,rfl,by rw[HS.out,HP.out];rfl⟩
      case measure=>simp[intOf];omega
   ·obtain rfl:k=xs.length:=by omega
    have HT:Hid (m6 s.data.toList=(bb &&decide (1<=xs.length) &&decide (xs.length<=12))):=by rw[HL.out,HB.out,List.take_length];rfl
    cases bb
    ·go_wp2;go_ret;exact⟨cO (by rw[HT.out];rfl),hb1⟩
    ·by_cases h1:1<=xs.length
     ·have h1d:decide (1<=(xs.length:Int))=true:=by simp;omega
      go_wp2;go_ret;exact⟨cO (by rw[HT.out];exact Pc _ _ _ rfl h1),hb1⟩
     ·have h1d:decide (1<=(xs.length:Int))=false:=by simp;omega
      go_wp2;go_ret;exact⟨cO (by rw[HT.out];simp[h1]),hb1⟩
end bJ
namespace Mc
open bJ
structure uF.ok(c:uF):Prop where
 le:1<=c.le∧c.le<=20
 re:0<=c.re∧c.re<=5
 ca:1<=c.ca∧c.ca<=5
 bo:1<=c.bo∧c.bo<=8
 he:0<=c.he∧c.he<=20
structure Rq.ok(P:Int)(q:Nat)(r:Rq):Prop where
 id:0<=r.id∧r.id<=999999
 n:0<=r.n∧r.n+q<=P
 left:0<=r.left∧r.left<=5
 ten:r.ten.length<=64
 txt:r.txt.length<=64
structure At.ok(P:Int)(q:Nat)(a:At):Prop where
 id:0<=a.id∧a.id<=999999
 n:0<=a.n∧a.n+q<=P
 k7:0<=a.k7∧a.k7<=P
 eV:0<=a.eV∧a.eV<=P+20
structure Bd(P:Int)(s:St):Prop where
 c:s.c.ok
 now:0<=s.now∧s.now<=P
 rq: ∀r∈s.reqs,r.ok P s.wait.length
 at': ∀a∈s.af,a.ok P s.wait.length
namespace Bd
variable{P P':Int}{s s':St}
theorem sub(h:Bd P s)(h1:s'.c=s.c)(h2:s'.now=s.now)(h3: ∀r∈s'.reqs,r∈s.reqs)(h4: ∀a∈s'.af,a∈s.af)(h5:s'.wait.length<=s.wait.length):Bd P s':=
 ⟨h1▸h.c,h2▸h.now,fun r hr=>let x:=h.rq r (h3 r hr);⟨x.id,⟨x.n.1,by have:=x.n.2;omega⟩,x.left,x.ten,x.txt⟩,
  fun a ha=>let x:=h.at' a (h4 a ha);⟨x.id,⟨x.n.1,by have:=x.n.2;omega⟩,x.k7,x.eV⟩⟩
theorem up(h:Bd P s)(hp:P<=P'):Bd P' s:=
 ⟨h.c,⟨h.now.1,by have:=h.now.2;omega⟩,fun r hr=>let x:=h.rq r hr;⟨x.id,⟨x.n.1,by have:=x.n.2;omega⟩,x.left,x.ten,x.txt⟩,
  fun a ha=>let x:=h.at' a ha;⟨x.id,⟨x.n.1,by have:=x.n.2;omega⟩,⟨x.k7.1,by have:=x.k7.2;omega⟩,⟨x.eV.1,by have:=x.eV.2;omega⟩⟩⟩
theorem say(h:Bd P s)(c:Int)(t:Bs):Bd P (s.say c t):=⟨h.c,h.now,h.rq,h.at'⟩
theorem told(h:Bd P s):Bd P s.told:=⟨h.c,h.now,h.rq,h.at'⟩
theorem aq(h:Bd P s)(l:List Cn):Bd P {s with aq:=l}:=⟨h.c,h.now,h.rq,h.at'⟩
theorem conn(h:Bd P s)(c:Int):Bd P (s.conn c):=by unfold St.conn;split;(·exact h);(·exact h.aq _)
theorem fJ(h:Bd P s)(c:Int):Bd P (s.fJ c):=by obtain⟨_,e2,_,e4,e5,e6,e7⟩:=St.sx (s:=s) c;exact h.sub e6 e7 (fun r hr=>e4▸hr) (fun a ha=>e2▸ha) (by rw[e5];exact ae _)
theorem aS(h:Bd P s)(i:Nat):Bd P (s.aS i):=by obtain⟨_,e2,_,e4,e5,e6,e7⟩:=St.cG (s:=s) i;exact h.sub e6 e7 (fun r hr=>e4▸hr) (fun a ha=>List.mem_of_mem_eraseIdx (e2▸ha)) (by rw[e5];exact ae _)
theorem idle(h:Bd P s)(c:Int):Bd P (s.idle c):=h.sub rfl rfl (fun _ h=>h) (fun _ h=>h) (List.length_filter_le ..)
theorem a6(h:Bd P s)(id:Int)(f:Bool):Bd P (s.a6 id f):=by obtain⟨_,e2,e3,e4,_,_,e7,e8⟩:=St.fQ (s:=s) id f;exact h.sub e7 e8 (fun r hr=>e3▸hr) (fun a ha=>e2▸ha) (by rw[e4];exact ae _)
theorem left(h:Bd P s)(id:Int):Bd P (s.left id):=⟨h.c,h.now,h.rq,h.at'⟩
theorem stopped{id:Int}(h:Bd P s)(hs:St.eB s s' id):Bd P s':=h.sub hs.cfg hs.now (fun r hr=>hs.reqs▸hr) (fun a ha=>hs.sub.subset ha) (by rw[hs.wait];exact ae _)
theorem shut(h:Bd P s)(id:Int):Bd P (s.shut id):=by have h1:=(h.stopped (St.iE s.af.length s id)).left id;exact h1.sub rfl rfl (fun r hr=>(gp _ _).subset hr) (fun _ h=>h) (ae _)
theorem bu(h:Bd P s)(id:Int)(f:Rq->Rq)(hf: ∀r,r∈s.reqs->(r.id==id)=true->(f r).ok P s.wait.length):Bd P (s.bu id f):=
 ⟨h.c,h.now,fun r hr=>by
  rcases cR hr with hr|⟨y,hy,hp,rfl⟩
  ·exact h.rq r hr
  ·exact hf y hy hp,h.at'⟩
theorem Q6(hi:Inv s){id:Int}{r r':Rq}(h:s.req id=some r)(h':r'∈s.reqs)(e:(r'.id==id)=true):r'=r:=by
 obtain⟨hm,hid,_⟩:=St.oY h;have hn:=hi.rid;unfold St.ks at hn;rw[aG]at hn;obtain⟨i,Ab,ei⟩:=List.getElem_of_mem hm;obtain⟨j,XO,ej⟩:=List.getElem_of_mem h';have h2:=List.pairwise_iff_getElem.1 hn;have e':r'.id=r.id:=by rw[hid];simpa using e
 rcases Nat.lt_trichotomy i j with h|h|h
 ·exact absurd (by rw[List.getElem_map,List.getElem_map,ei,ej];exact e'.symm) (h2 i j (by simpa using Ab) (by simpa using XO) h)
 ·subst h;rw[<-ei,<-ej]
 ·exact absurd (by rw[List.getElem_map,List.getElem_map,ei,ej];exact e') (h2 j i (by simpa using XO) (by simpa using Ab) h)
theorem again(h:Bd P s)(hi:Inv s)(id:Int)(c:Bool):Bd P (s.again id c):=by
 unfold St.again;split
 ·exact h
 ·split
  ·exact h
  ·rename_i r hr;split
   ·exact(h.say _ _).shut _
   ·rename_i hc;split
    ·refine(h.bu id _ (fun r' qO e=> ?_)).a6 _ _;have e1:=Q6 hi hr qO e;subst e1;have x:=h.rq r' qO;have hl:r'.left≠0:=by rename_i Xy;intro e0;apply hc;simp[Xy,e0]
     exact⟨x.id,x.n,by have:=x.left;exact⟨by show 0<=r'.left-1;omega,by show r'.left-1<=5;omega⟩,x.ten,x.txt⟩
    ·exact h.a6 _ _
theorem give(h:Bd P s){c:Int}{ws:List Int}(hw:s.wait=c::ws)(k:Nat):Bd P (s.give c ws k):=by
 unfold St.give;split
 ·exact h
 ·split
  ·exact h
  ·split
   ·exact h
   ·rename_i id _ _ r hr;have hlen:s.wait.length=ws.length+1:=by rw[hw];rfl
    apply say;refine⟨h.c,h.now,fun r' qO=> ?_,fun a ha=> ?_⟩
    ·rcases cR qO with qO|⟨y,hy,hp,rfl⟩
     ·have x:=h.rq r' qO;exact⟨x.id,⟨x.n.1,by have:=x.n.2;show r'.n+(ws.length:Int)<=P;omega⟩,x.left,x.ten,x.txt⟩
     ·have x:=h.rq y hy;exact⟨x.id,⟨by have:=x.n.1;show 0<=y.n+1;omega,by have:=x.n.2;show y.n+1+(ws.length:Int)<=P;omega⟩,x.left,x.ten,x.txt⟩
    ·rcases List.mem_append.1 ha with ha|ha
     ·have x:=h.at' a ha;exact⟨x.id,⟨x.n.1,by have:=x.n.2;show a.n+(ws.length:Int)<=P;omega⟩,x.k7,x.eV⟩
     ·obtain rfl:=cY.1 ha;obtain⟨hm,hid,_⟩:=St.oY hr;have x:=h.rq r hm;have:=h.now;have:=h.c.le;refine⟨hid▸x.id,⟨by have:=x.n.1;show 0<=r.n+1;omega,by have:=x.n.2;show r.n+1+(ws.length:Int)<=P;omega⟩,h.now, ?_, ?_⟩
      ·show 0<=s.now+s.c.le;omega
      ·show s.now+s.c.le<=P+20;omega
theorem cS: ∀(f:Nat) {s:St},Bd P s->Inv s->Bd P (St.cS f s)
 |0,_,h,_=>h
 |f+1,s,h,hi=>by
  unfold St.cS;split
  ·exact h
  ·rename_i c ws hw;split
   ·exact h
   ·exact cS f (h.give hw _) (St.lF hi c ws (by rw[hw];exact List.sublist_cons_self ..) _)
theorem serve(h:Bd P s)(hi:Inv s):Bd P s.serve:=cS _ h hi
theorem cV: ∀(f:Nat) {s:St},Bd P s->Inv s->Bd P (St.cV f s)
 |0,_,h,_=>h
 |f+1,s,h,hi=>by
  unfold St.cV;split
  ·exact h
  ·split
   ·exact h
   ·exact cV f (((h.say _ _).aS _).again (St.br (St.bM hi _ _) _) _ _) (St.eC (St.br (St.bM hi _ _) _) _ _)
theorem bA(h:Bd P s)(a:At):Bd P (s.bA a):=by
 unfold St.bA;split
 ·exact h
 ·split
  ·exact(h.bu a.id (fun r=>{r with bn:=true}) (fun r hr _=>let x:=h.rq r hr;⟨x.id,x.n,x.left,x.ten,x.txt⟩)).a6 _ _
  ·exact h
theorem fold: ∀(l:List At) {s:St},Bd P s->Bd P (l.foldl St.bA s)
 | [],_,h=>h
 |a::l,_,h=>fold l (h.bA a)
theorem tick(h:Bd P s)(hi:Inv s):Bd (P+1) s.tick:=by
 have h1:Bd (P+1) {s with now:=s.now+1}:=by have h0:=h.up (P':=P+1) (by omega);have:=h.now;exact⟨h0.c,⟨by show 0<=s.now+1;omega,by show s.now+1<=P+1;omega⟩,h0.rq,h0.at'⟩
 have i1:=St.kU hi (s.now+1);exact(fold _ (cV _ h1 i1)).serve (St.jH (St.jL _ i1))
theorem aQ: ∀(f:Nat) {s:St} (c:Int),Bd P s->Bd P (St.aQ f s c)
 |0,_,_,h=>h
 |f+1,s,c,h=>by
  unfold St.aQ;split
  ·exact h
  ·exact aQ f c ((h.stopped (St.eK _ _ _ _ _)).shut _)
theorem aP: ∀(f:Nat) {s:St} (c:Int),Bd P s->Inv s->Bd P (St.aP f s c)
 |0,_,_,h,_=>h
 |f+1,s,c,h,hi=>by
  unfold St.aP;split
  ·exact h
  ·split
   ·exact h
   ·exact aP f c ((h.aS _).again (St.br hi _) _ _) (St.eC (St.br hi _) _ _)
theorem close(h:Bd P s)(hi:Inv s)(c:Int):Bd P (s.close c):=by have i1:=St.iY hi c;have i2:Inv ({s.idle c with aq:=(s.idle c).aq.filter (·.n !=c)}:St):=⟨i1.rid,i1.bS,i1.ring,i1.fP,i1.once,(List.filter_sublist.map _).nodup i1.cn,i1.wt⟩;have h2:=(h.idle c).aq ((s.idle c).aq.filter (·.n !=c));exact(aP _ c (aQ _ c h2) (St.dW _ c i2)).serve (St.fY _ c (St.dW _ c i2))
structure bJ(m:Mg):Prop where
 id:0<=m.id∧m.id<=999999
 ten:m.ten.length<=64
 txt:m.txt.length<=64
theorem bU(h:Bd P s)(c:Int){m:Mg}(hm:bJ m)(hp:(s.wait.length:Int)<=P):Bd P (s.bU c m):=by
 unfold St.bU;split
 ·exact h.say _ _
 ·split
  ·exact h.say _ _
  ·apply Bd.a6;apply Bd.say;refine⟨h.c,h.now,fun r hr=> ?_,h.at'⟩;rcases List.mem_append.1 hr with hr|hr
   ·exact h.rq r hr
   ·obtain rfl:=cY.1 hr;have:=h.c.re;exact⟨hm.id,⟨Int.le_refl _,by show 0+(s.wait.length:Int)<=P;omega⟩,this,hm.ten,hm.txt⟩
theorem message(h:Bd P s)(hi:Inv s)(c:Int){m:Mg}(hm:bJ m)(hp:(s.wait.length:Int)<=P):Bd (P+1) (s.message c m):=by
 have h0:=h.up (P':=P+1) (by omega);unfold St.message;split
 ·exact(h.bU c hm hp).up (by omega)
 split
 ·split
  ·exact h0.say _ _
  ·split
   ·exact(h0.say _ _).shut _
   ·exact h0.say _ _
 split
 ·split
  ·exact h0
  ·dsimp only;have e:(s.conn c).wait=s.wait:=by unfold St.conn;split<;>rfl
   split
   ·exact h0.conn c
   ·have h1:=h.conn c;have h2:=h0.conn c;have hl:((s.conn c).wait++ [c]).length=(s.conn c).wait.length+1:=by simp
    refine⟨h2.c,h2.now,fun r hr=> ?_,fun a ha=> ?_⟩
    ·have x:=h1.rq r hr;exact⟨x.id,⟨x.n.1,by have:=x.n.2;show r.n+(((s.conn c).wait++ [c]).length:Int)<=P+1;omega⟩,x.left,x.ten,x.txt⟩
    ·have x:=h1.at' a ha;exact⟨x.id,⟨x.n.1,by have:=x.n.2;show a.n+(((s.conn c).wait++ [c]).length:Int)<=P+1;omega⟩,⟨x.k7.1,by have:=x.k7.2;omega⟩,⟨x.eV.1,by have:=x.eV.2;omega⟩⟩
 split
 ·refine⟨h0.c,h0.now,h0.rq,fun a ha=> ?_⟩;obtain⟨x,hx,rfl⟩:=aA.1 ha;have y:=h0.at' x hx;have:=h.now;have:=h.c.le;split
  ·exact⟨y.id,y.n,y.k7,by show 0<=s.now+s.c.le;omega,by show s.now+s.c.le<=P+1+20;omega⟩
  ·exact y
 split
 ·split
  ·exact h0
  ·split
   ·exact h0
   ·exact((h0.say _ _).aS _).shut _
 split
 ·split
  ·exact h0
  ·exact(h0.aS _).again (St.br hi _) _ _
 split
 ·exact(((h0.conn c).aq _).idle c).fJ c
 ·exact h0
