import Derived.Test.YtffamlbkmjmipaaGreatDoorC07
import Derived.Deep.RegionHeld3
import Derived.Deep.RegionWith
import Derived.Deep.RegionLaw
set_option maxHeartbeats 8000000
set_option maxRecDepth 100000
namespace Go.Proofs.YtffamlbkmjmipaaGreatDoor
open _root_.Go.Proofs.Tryz
namespace aG
open Go.RowKit
attribute [local go_sem] ae ag
theorem Av(s:ByteArray)(w:World)(hs:s.size<=1000000000000000):Calls prog 84 #[.string s] w fun e w'=>e= .returned (.agg #[.int .u8 (sm s.data.toList s.size 0), .int .u8 (sm s.data.toList s.size 1), .int .u8 (sm s.data.toList s.size 2), .int .u8 (sm s.data.toList s.size 3)])∧Below w.heap.size w w':=by
 go_enter func84,ntmps84;go_wp2;go_loopw [7] (fun i wr=> ∃k n:Nat,k<=s.size∧i= .int .i64 k∧wr=((w.alloc (.cells #[.int .u8 0, .int .u8 0, .int .u8 0, .int .u8 0] 143)).alloc (.cells #[.int .u8 (sm s.data.toList k 0), .int .u8 (sm s.data.toList k 1), .int .u8 (sm s.data.toList k 2), .int .u8 (sm s.data.toList k 3)] 143)).drewN n) (fun i _=>s.size-(intOf i).toNat)
 case atStart=>exact⟨0,0,bh _,rfl,rfl⟩
 case round=>
  obtain⟨k,n,hk,rfl,rfl⟩:=hrel;have b0:=gQ s.data.toList k 0;have b1:=gQ s.data.toList k 1;have b2:=gQ s.data.toList k 2;have b3:=gQ s.data.toList k 3;by_cases aN:k<s.size
  ·have z6:(s[k].toNat:Int)<=255:=by have:=s[k].toNat_lt;omega
   have LR:(s.data.toList[k]?.getD 0).toNat=s[k].toNat:=by rw[aY (by simpa using aN)];rfl
   have hm:k %4=0∨k %4=1∨k %4=2∨k %4=3:=by omega
   have HG:Hid ((s.data.toList[k]?.getD 0).toNat=s[k].toNat):=LR;clear LR;rcases hm with hm|hm|hm|hm
   ·have V2:(k:Int) %4=0:=by omega
    have HK:Hid (k %4=0):=hm;clear hm;go_wp2
    go_region
    go_wp2;go_roundw
    case rel=>refine⟨k+1,n+1,by omega,by go_num, ?_⟩;have e:=HK.out;rw[kB _ _ 0 e,bL _ _ 1 (by omega),bL _ _ 2 (by omega),bL _ _ 3 (by omega),HG.out]
    case measure=>simp[intOf];omega
   ·have V2:(k:Int) %4=1:=by omega
    have HK:Hid (k %4=1):=hm;clear hm;go_wp2
    go_region
    go_wp2;go_roundw
    case rel=>refine⟨k+1,n+1,by omega,by go_num, ?_⟩;have e:=HK.out;rw[kB _ _ 1 e,bL _ _ 0 (by omega),bL _ _ 2 (by omega),bL _ _ 3 (by omega),HG.out]
    case measure=>simp[intOf];omega
   ·have V2:(k:Int) %4=2:=by omega
    have HK:Hid (k %4=2):=hm;clear hm;go_wp2
    go_region
    go_wp2;go_roundw
    case rel=>refine⟨k+1,n+1,by omega,by go_num, ?_⟩;have e:=HK.out;rw[kB _ _ 2 e,bL _ _ 0 (by omega),bL _ _ 1 (by omega),bL _ _ 3 (by omega),HG.out]
    case measure=>simp[intOf];omega
   ·have V2:(k:Int) %4=3:=by omega
    have HK:Hid (k %4=3):=hm;clear hm;go_wp2
    go_region
    go_wp2;go_roundw
    case rel=>refine⟨k+1,n+1,by omega,by go_num, ?_⟩;have e:=HK.out;rw[kB _ _ 3 e,bL _ _ 0 (by omega),bL _ _ 1 (by omega),bL _ _ 2 (by omega),HG.out]
    case measure=>simp[intOf];omega
  ·obtain rfl:k=s.size:=by omega
   go_wp2;refine bodyPost_ret (v:= .agg #[.int .u8 (sm s.data.toList s.size 0), .int .u8 (sm s.data.toList s.size 1), .int .u8 (sm s.data.toList s.size 2), .int .u8 (sm s.data.toList s.size 3)]) (by simp[results,results84,go_sem]) rfl ⟨rfl, ?_⟩;exact Below.wh (((au _ _).alloc (af _) _).alloc (by simp) _) n
theorem M6(x:Int)(h0:0<=x)(h1:x<=15)(h:x.toNat<(⟨#[48,49,50,51,52,53,54,55,56,57,97,98,99,100,101,102]⟩:ByteArray).size):((⟨#[48,49,50,51,52,53,54,55,56,57,97,98,99,100,101,102]⟩:ByteArray)[x.toNat]'h)=dg x:=by
 obtain⟨n,rfl⟩:=Int.eq_ofNat_of_zero_le h0;have hn:n<16:=by omega
 have e: ∀m:Fin 16,((⟨#[48,49,50,51,52,53,54,55,56,57,97,98,99,100,101,102]⟩:ByteArray)[((m.val:Int)).toNat]?).getD 0=dg (m.val:Int):=by decide+kernel
 have e1:((⟨#[48,49,50,51,52,53,54,55,56,57,97,98,99,100,101,102]⟩:ByteArray)[((n:Int)).toNat]?).getD 0=dg (n:Int):=e ⟨n,hn⟩;have e2:(⟨#[48,49,50,51,52,53,54,55,56,57,97,98,99,100,101,102]⟩:ByteArray)[((n:Int)).toNat]?=some ((⟨#[48,49,50,51,52,53,54,55,56,57,97,98,99,100,101,102]⟩:ByteArray)[((n:Int)).toNat]'h):=getElem?_pos (⟨#[48,49,50,51,52,53,54,55,56,57,97,98,99,100,101,102]⟩:ByteArray) _ h;rw[e2]at e1;exact e1
theorem nY(l:List UInt8)(x:Int)(h0:0<=x)(h1:x<=255)(p1:(x/16).toNat<(⟨#[48,49,50,51,52,53,54,55,56,57,97,98,99,100,101,102]⟩:ByteArray).size)(p2:(x %16).toNat<(⟨#[48,49,50,51,52,53,54,55,56,57,97,98,99,100,101,102]⟩:ByteArray).size):Lib.byteCells l++ [Value.int .u8 (((⟨#[48,49,50,51,52,53,54,55,56,57,97,98,99,100,101,102]⟩:ByteArray)[(x/16).toNat]'p1).toNat:Int)]++ [Value.int .u8 (((⟨#[48,49,50,51,52,53,54,55,56,57,97,98,99,100,101,102]⟩:ByteArray)[(x %16).toNat]'p2).toNat:Int)]=Lib.byteCells (l++two x):=by rw[M6 _ (by omega) (by omega),M6 _ (by omega) (by omega),Lib.byteCells_append];simp[Lib.byteCells,two]
theorem Hs(a b c d:Int)(w:World)(ha:0<=a∧a<=255)(hb:0<=b∧b<=255)(hc:0<=c∧c<=255)(hd:0<=d∧d<=255):Calls prog 85 #[.agg #[.int .u8 a, .int .u8 b, .int .u8 c, .int .u8 d]] w fun e w'=>e= .returned (.string ⟨(two a++two b++two c++two d).toArray⟩)∧Below w.heap.size w w':=by
 have i0: ∀w:World,(Instr.index 143 (.agg #[.int .u8 a, .int .u8 b, .int .u8 c, .int .u8 d]) (.int .i64 0)).run prog w= .ok (.int .u8 a) w:=fun _=>by kernel_rfl
 have i1: ∀w:World,(Instr.index 143 (.agg #[.int .u8 a, .int .u8 b, .int .u8 c, .int .u8 d]) (.int .i64 1)).run prog w= .ok (.int .u8 b) w:=fun _=>by kernel_rfl
 have i2: ∀w:World,(Instr.index 143 (.agg #[.int .u8 a, .int .u8 b, .int .u8 c, .int .u8 d]) (.int .i64 2)).run prog w= .ok (.int .u8 c) w:=fun _=>by kernel_rfl
 have i3: ∀w:World,(Instr.index 143 (.agg #[.int .u8 a, .int .u8 b, .int .u8 c, .int .u8 d]) (.int .i64 3)).run prog w= .ok (.int .u8 d) w:=fun _=>by kernel_rfl
 go_enter func85,ntmps85;go_wp2;go_loopw [7] (fun i wr=> ∃(j:Nat) (l:List UInt8),j<=4∧l.length<=2*j∧i= .int .i64 j∧Lib.IsBuilderF 191 5 (w.heap.size+1) (w.heap.size+1) (Lib.byteCells l) wr∧Below (w.heap.size+1) (w.alloc (.cells #[.int .u8 a, .int .u8 b, .int .u8 c, .int .u8 d] 143)) wr∧l=(([a,b,c,d].take j).flatMap two)) (fun i _=>4-(intOf i).toNat)
 case atStart=>exact⟨0, [],by omega,by simp,rfl,Lib.IsBuilderF.of (by have h:=Lib.fresh_isBuilder 191 5 (w.alloc (.cells #[.int .u8 a, .int .u8 b, .int .u8 c, .int .u8 d] 143));simp only[World.size_alloc]at h;exact h),(au _ _).alloc (by simp) _,rfl⟩
 case round=>
  obtain⟨j,l,hj,LS,rfl,hI,hB,hl⟩:=hrel;have dc:w.heap.size+1<=wr.heap.size:=by have:=hB.size;simpa using this
  have HL:Hid (l=(([a,b,c,d].take j).flatMap two)):=hl;clear hl;by_cases aN:j<4
  ·have hm:j=0∨j=1∨j=2∨j=3:=by omega
   rcases hm with rfl|rfl|rfl|rfl
   ·have q1:0<=a/16∧a/16<=15:=by omega
    have q2:0<=a %16∧a %16<=15:=by omega
    go_wp2_with fail;refine(Rx.dP (w.heap.size+1) (w.heap.size+1) (Lib.byteCells l) _ _ hI (by rw[Lib.byteCells_length];omega) dc).mono ?_;rintro e w1⟨rfl,h1,bT,_⟩;have GH:w.heap.size+1<=w1.heap.size:=ar dc bT.size;go_wp2_with fail;refine(Rx.dP (w.heap.size+1) (w.heap.size+1) _ _ _ (Or.inr h1) (by rw[aH,Lib.byteCells_length,List.length_singleton];omega) GH).mono ?_;rintro e w2⟨rfl,h2,cZ,_⟩;rw[nY l a ha.1 ha.2]at h2;go_wp2;go_roundw
    case rel=>exact⟨0+1,l++two a,by omega,by rw[aH];simp only[two,List.length_cons,List.length_nil];omega,by go_num,Or.inr h2,(hB.trans bT).trans cZ,by rw[HL.out];simp⟩
    case measure=>simp[intOf]
   ·have q1:0<=b/16∧b/16<=15:=by omega
    have q2:0<=b %16∧b %16<=15:=by omega
    go_wp2_with fail;refine(Rx.dP (w.heap.size+1) (w.heap.size+1) (Lib.byteCells l) _ _ hI (by rw[Lib.byteCells_length];omega) dc).mono ?_;rintro e w1⟨rfl,h1,bT,_⟩;have GH:w.heap.size+1<=w1.heap.size:=ar dc bT.size;go_wp2_with fail;refine(Rx.dP (w.heap.size+1) (w.heap.size+1) _ _ _ (Or.inr h1) (by rw[aH,Lib.byteCells_length,List.length_singleton];omega) GH).mono ?_;rintro e w2⟨rfl,h2,cZ,_⟩;rw[nY l b hb.1 hb.2]at h2;go_wp2;go_roundw
    case rel=>exact⟨1+1,l++two b,by omega,by rw[aH];simp only[two,List.length_cons,List.length_nil];omega,by go_num,Or.inr h2,(hB.trans bT).trans cZ,by rw[HL.out];simp⟩
    case measure=>simp[intOf]
   ·have q1:0<=c/16∧c/16<=15:=by omega
    have q2:0<=c %16∧c %16<=15:=by omega
    go_wp2_with fail;refine(Rx.dP (w.heap.size+1) (w.heap.size+1) (Lib.byteCells l) _ _ hI (by rw[Lib.byteCells_length];omega) dc).mono ?_;rintro e w1⟨rfl,h1,bT,_⟩;have GH:w.heap.size+1<=w1.heap.size:=ar dc bT.size;go_wp2_with fail;refine(Rx.dP (w.heap.size+1) (w.heap.size+1) _ _ _ (Or.inr h1) (by rw[aH,Lib.byteCells_length,List.length_singleton];omega) GH).mono ?_;rintro e w2⟨rfl,h2,cZ,_⟩;rw[nY l c hc.1 hc.2]at h2;go_wp2;go_roundw
    case rel=>exact⟨2+1,l++two c,by omega,by rw[aH];simp only[two,List.length_cons,List.length_nil];omega,by go_num,Or.inr h2,(hB.trans bT).trans cZ,by rw[HL.out];simp⟩
    case measure=>simp[intOf]
   ·have q1:0<=d/16∧d/16<=15:=by omega
    have q2:0<=d %16∧d %16<=15:=by omega
    go_wp2_with fail;refine(Rx.dP (w.heap.size+1) (w.heap.size+1) (Lib.byteCells l) _ _ hI (by rw[Lib.byteCells_length];omega) dc).mono ?_;rintro e w1⟨rfl,h1,bT,_⟩;have GH:w.heap.size+1<=w1.heap.size:=ar dc bT.size;go_wp2_with fail;refine(Rx.dP (w.heap.size+1) (w.heap.size+1) _ _ _ (Or.inr h1) (by rw[aH,Lib.byteCells_length,List.length_singleton];omega) GH).mono ?_;rintro e w2⟨rfl,h2,cZ,_⟩;rw[nY l d hd.1 hd.2]at h2;go_wp2;go_roundw
    case rel=>exact⟨3+1,l++two d,by omega,by rw[aH];simp only[two,List.length_cons,List.length_nil];omega,by go_num,Or.inr h2,(hB.trans bT).trans cZ,by rw[HL.out];simp⟩
    case measure=>simp[intOf]
  ·obtain rfl:j=4:=by omega
   go_wp2_with fail;refine(Builder_String_any_k (w.heap.size+1) (w.heap.size+1) l _ hI dc).mono ?_;rintro e w1⟨rfl,_,bT,_⟩;go_wp2;go_ret;refine⟨by rw[HL.out];simp, ?_⟩;exact((au _ _).alloc (af _) _).trans ((hB.trans bT).mono (Nat.le_succ _))
theorem VR(s:ByteArray):two (sm s.data.toList s.size 0)++two (sm s.data.toList s.size 1)++two (sm s.data.toList s.size 2)++two (sm s.data.toList s.size 3)=hex s.data.toList:=by
 have e:s.size=s.data.toList.length:=by simp
 rw[e];rfl
theorem Td(s:ByteArray):s++(⟨#[32]⟩:ByteArray)++(⟨(two (sm s.data.toList s.size 0)++two (sm s.data.toList s.size 1)++two (sm s.data.toList s.size 2)++two (sm s.data.toList s.size 3)).toArray⟩:ByteArray)=⟨(line s.data.toList).toArray⟩:=by rw[Ce s 0,VR,kL];rfl
theorem sS(s:ByteArray)(w:World)(hs:s.size<=1000000000000000):Calls prog 46 #[.string s] w fun e w'=>e= .returned (.string ⟨(line s.data.toList).toArray⟩)∧Below w.heap.size w w':=by
 go_enter func46,ntmps46;go_wp2_with fail;refine(Av s _ hs).mono ?_;rintro e w1⟨rfl,bT⟩;go_wp2_with fail;refine(Hs _ _ _ _ _ (gQ _ _ _) (gQ _ _ _) (gQ _ _ _) (gQ _ _ _)).mono ?_;rintro e w2⟨rfl,cZ⟩;have hl:(two (sm s.data.toList s.size 0)++two (sm s.data.toList s.size 1)++two (sm s.data.toList s.size 2)++two (sm s.data.toList s.size 3)).length<=8:=by simp[two]
 have HE:=Td s;have HH:Hid (s++(⟨#[32]⟩:ByteArray)++(⟨(two (sm s.data.toList s.size 0)++two (sm s.data.toList s.size 1)++two (sm s.data.toList s.size 2)++two (sm s.data.toList s.size 3)).toArray⟩:ByteArray)=⟨(line s.data.toList).toArray⟩):=HE;clear HE;generalize two (sm s.data.toList s.size 0)++two (sm s.data.toList s.size 1)++two (sm s.data.toList s.size 2)++two (sm s.data.toList s.size 3)=hx at*;go_wp2;go_ret;exact⟨congrArg (fun x=>Ending.returned (.string x)) HH.out,bT.trans (cZ.mono bT.size)⟩
theorem QM(s:ByteArray)(w:World)(hs:s.size<=1000000000000000):Calls prog 28 #[.string s] w fun e w'=>e= .returned (.string ⟨(line s.data.toList).toArray⟩)∧Below w.heap.size w w':=by go_enter func28,ntmps28;go_wp2_with fail;refine(sS s _ hs).mono ?_;rintro e w1⟨rfl,bT⟩;go_wp2;go_ret;exact⟨rfl,bT⟩
end aG
namespace Mr
open Go.RowKit aJ Mc
theorem MF.ah{w:World}{p:Nat}{s:St}{m:MV}{g:List (Ln×Value)}(hm:MF w p s m g): ∃ao cap G,w.cell? ⟨p,7,none⟩=some (.slice ao s.ah.length cap)∧Hid ((YD (.slice ao s.ah.length cap) s.ah).holds w G)∧Hid (0<s.ah.length-> ∃g off,ao=some ⟨g,off,none⟩):=by have c7:w.cell? ⟨p,7,none⟩=some m.av:=hm.cell 7;obtain⟨G,hG⟩:=hm.at';obtain⟨ao,cap,hv,cX,bQ⟩:=cE hG;rw[hv]at hG c7;exact⟨ao,cap,G,c7,hG,bQ⟩
variable{w:World}{p b j:Nat}{s:St}{m:MV}{g:List (Ln×Value)}{cs:Array Value}
theorem MF.heap{w':World}(h:MF w p s m g)(e:w'.heap=w.heap):MF w' p s m g:=by have k: ∀{A:aJ},(∃G,A.holds w G)-> ∃G,A.holds w' G:=fun⟨G,hG⟩=>⟨G,aJ.keep _ hG (fun k hk=>by rw[e])⟩;exact⟨by rw[e];exact h.blk,h.ring,k h.rq,k h.at',k h.ln,fun x hx=>k (h.lns x hx),k h.wt,k h.cn,k h.ou⟩
theorem MF.reqs(hm:MF w p s m g): ∃ao cap G,w.cell? ⟨p,6,none⟩=some (.slice ao s.reqs.length cap)∧Hid ((fc (.slice ao s.reqs.length cap) s.reqs).holds w G)∧Hid (0<s.reqs.length-> ∃g off,ao=some ⟨g,off,none⟩):=by have c7:w.cell? ⟨p,6,none⟩=some m.rv:=hm.cell 6;obtain⟨G,hG⟩:=hm.rq;obtain⟨ao,cap,hv,cX,bQ⟩:=cE hG;rw[hv]at hG c7;exact⟨ao,cap,G,c7,hG,bQ⟩
theorem dC{t:TypeId}(h:w.heap[b]?=some (.cells cs t (0,0))):w.cell? ⟨b,j,none⟩=cs[j]?:=by simp only[World.cell?,h];rfl
theorem pR{t:TypeId}(h:w.heap[b]?=some (.cells cs t (0,0))):w.frozen? ⟨b,j,none⟩=false:=by simp only[World.frozen?,h];simp
variable{n:Nat}
theorem rz(f n:Nat):(kP f n).length<=f:=by
 induction f generalizing n with
 |zero=>simp[kP]
 |succ f ih=>unfold kP;split;(·simp);(·have:=ih (n/10);simp;omega)
theorem gz(x:Int):(bZ x).length<=20:=rz _ _
theorem JV(f n:Nat)(h:n<10 ^f)(hf:0<f):kP f n=kP (f+1) n:=by
 induction f generalizing n with
 |zero=>omega
 |succ f ih=>
  conv=>lhs;unfold kP
  conv=>rhs;unfold kP
  by_cases hn:n<10
  ·rw[if_pos hn,if_pos hn]
  ·rw[if_neg hn,if_neg hn];rw[ih (n/10) (by rw[Nat.pow_succ]at h;omega) (by
    rcases Nat.eq_zero_or_pos f with h0|h0
    ·subst h0;simp at h;omega
    ·exact h0)]
theorem zU(h:n<10):bZ (n:Int)= [UInt8.ofNat (48+n)]:=by unfold bZ kP;rw[if_pos (by simpa using h)];rfl
theorem Iw(h: ¬n<10)(hn:n<10 ^19):bZ (n:Int)=bZ ((n/10:Nat):Int)++ [UInt8.ofNat (48+n %10)]:=by
 unfold bZ
 conv=>lhs;unfold kP
 rw[if_neg (by simpa using h)];simp only[Int.toNat_natCast];rw[JV 19 (n/10) (by omega) (by omega)]
theorem one_byte(n:Nat)(h:n<256):(UInt8.ofNat n).toNat=n:=by simp;omega
theorem WZ(x:Int):strOfNums [x]=⟨#[UInt8.ofNat x.toNat]⟩:=rfl
theorem td{W:World}{B:Nat}{x:Int}(h:W.cell? ⟨B,0,none⟩=some (.int .u8 x)):(convert 35 9 (.slice (some ⟨B,0,none⟩) 1 1)).run prog W= .ok (.string ⟨#[UInt8.ofNat x.toNat]⟩) W:=by rw[<-WZ];exact run_convert_bytes_arg W _ _ underlying35 underlying5 B 0 1 1 [x] rfl (fun i hi=>by have e:i=0:=(by omega);subst e;exact h) _ underlying9
theorem CA(w:World)(B:Nat)(x:Int)(hB:w.heap.size=B):(convert 35 9 (.slice (some ⟨B,0,none⟩) 1 1)).run prog (w.alloc (.cells #[.int .u8 x] 5))= .ok (.string ⟨#[UInt8.ofNat x.toNat]⟩) (w.alloc (.cells #[.int .u8 x] 5)):=by subst hB;refine td ?_;simp only[World.cell?,heap_alloc_new];rfl
theorem zP(w:World)(B:Nat)(x:Int)(hB:w.heap.size=B):(convert 35 9 (.slice (some ⟨B,0,none⟩) 1 1)).run prog (w.alloc (.cells #[.int .u8 x] 5)).drew= .ok (.string ⟨#[UInt8.ofNat x.toNat]⟩) (w.alloc (.cells #[.int .u8 x] 5)).drew:=by subst hB;refine td ?_;show(w.alloc (.cells #[.int .u8 x] 5)).cell? _=_;simp only[World.cell?,heap_alloc_new];rfl
attribute [local go_sem] CA
attribute [local go_sem] zP
