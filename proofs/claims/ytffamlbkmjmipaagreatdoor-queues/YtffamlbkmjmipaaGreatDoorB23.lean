import Derived.Test.YtffamlbkmjmipaaGreatDoorB20
import Derived.Lib.ValidLaws
import Derived.Lib.OthersKept
import Derived.Laws.RangeAny
set_option maxHeartbeats 8000000
set_option maxRecDepth 100000
namespace Go.Proofs.YtffamlbkmjmipaaGreatDoor
open _root_.Go.Proofs.Tryz
namespace bJ
open Go.RowKit
theorem nx(l:List UInt8)(i:Nat):byteAt l i=((l.getD i 0).toNat:Int):=rfl
theorem Tl(i len a b c d:Nat)(hi:i<len)(ha:a<256)(hv: ¬((Lib.decodeN (len-i) a b c d).1=65533∧(Lib.decodeN (len-i) a b c d).2=1))(hr:(Lib.decodeN (len-i) a b c d).1<=65535):(if(a:Int)<128 then some ((a:Int),1)else if 194<=(a:Int)∧(a:Int)<224 then(if i+2<=len∧(decide (128<=(b:Int)) &&decide ((b:Int)<=191))=true then some (64*((a:Int) %32)+(b:Int) %64,2)else none)else if 224<=(a:Int)∧(a:Int)<240 then(if i+3<=len∧(decide (128<=(b:Int)) &&decide ((b:Int)<=191))=true∧(decide (128<=(c:Int)) &&decide ((c:Int)<=191))=true∧ ¬(64*(64*((a:Int) %16)+(b:Int) %64)+(c:Int) %64<2048∨55296<=64*(64*((a:Int) %16)+(b:Int) %64)+(c:Int) %64∧64*(64*((a:Int) %16)+(b:Int) %64)+(c:Int) %64<57344)then some (64*(64*((a:Int) %16)+(b:Int) %64)+(c:Int) %64,3)else none)else none)=some (((Lib.decodeN (len-i) a b c d).1:Int),(Lib.decodeN (len-i) a b c d).2):=by
 have on: ∀x:Nat,x/64=2->(decide (128<=(x:Int)) &&decide ((x:Int)<=191))=true:=fun x h=>by rw[bZ,decide_eq_true_eq,decide_eq_true_eq];omega
 by_cases h1:a<128
 ·have e:Lib.decodeN (len-i) a b c d=(a,1):=by unfold Lib.decodeN;rw[if_pos h1]
  rw[e,if_pos (by omega)]
 rw[if_neg (by omega)];by_cases h2:a/32=6∧(1<len-i∧b/64=2)
 ·by_cases h3:a %32*64+b %64≥128
  ·have e:Lib.decodeN (len-i) a b c d=(a %32*64+b %64,2):=by unfold Lib.decodeN;rw[if_neg h1,if_pos h2,if_pos h3]
   rw[e,if_pos (by omega),if_pos ⟨by omega,on b h2.2.2⟩];congr 2;simp only[Int.natCast_add,Int.natCast_mul,Int.natCast_emod];omega
  ·have e:Lib.decodeN (len-i) a b c d=(65533,1):=by unfold Lib.decodeN;rw[if_neg h1,if_pos h2,if_neg h3]
   exact absurd ⟨by rw[e],by rw[e]⟩ hv
 by_cases h3:a/16=14∧(1<len-i∧b/64=2)∧(2<len-i∧c/64=2)
 ·by_cases h4:a %16*4096+b %64*64+c %64≥2048∧(a %16*4096+b %64*64+c %64<55296∨(57344<=a %16*4096+b %64*64+c %64∧a %16*4096+b %64*64+c %64<=1114111))
  ·have e:Lib.decodeN (len-i) a b c d=(a %16*4096+b %64*64+c %64,3):=by unfold Lib.decodeN;rw[if_neg h1,if_neg h2,if_pos h3,if_pos h4]
   rw[e,if_neg (by omega),if_pos (by omega),if_pos ⟨by omega,on b h3.2.1.2,on c h3.2.2.2,by omega⟩];congr 2;simp only[Int.natCast_add,Int.natCast_mul,Int.natCast_emod];omega
  ·have e:Lib.decodeN (len-i) a b c d=(65533,1):=by unfold Lib.decodeN;rw[if_neg h1,if_neg h2,if_pos h3,if_neg h4]
   exact absurd ⟨by rw[e],by rw[e]⟩ hv
 exfalso;by_cases h4:a/8=30∧(1<len-i∧b/64=2)∧(2<len-i∧c/64=2)∧(3<len-i∧d/64=2)
 ·by_cases h5:a %8*262144+b %64*4096+c %64*64+d %64≥65536∧(a %8*262144+b %64*4096+c %64*64+d %64<55296∨(57344<=a %8*262144+b %64*4096+c %64*64+d %64∧a %8*262144+b %64*4096+c %64*64+d %64<=1114111))
  ·have e:Lib.decodeN (len-i) a b c d=(a %8*262144+b %64*4096+c %64*64+d %64,4):=by unfold Lib.decodeN;rw[if_neg h1,if_neg h2,if_neg h3,if_pos h4,if_pos h5]
   rw[e]at hr;have:=h5.1;simp only at hr;omega
  ·have e:Lib.decodeN (len-i) a b c d=(65533,1):=by unfold Lib.decodeN;rw[if_neg h1,if_neg h2,if_neg h3,if_pos h4,if_neg h5]
   exact absurd ⟨by rw[e],by rw[e]⟩ hv
 ·have e:Lib.decodeN (len-i) a b c d=(65533,1):=by unfold Lib.decodeN;rw[if_neg h1,if_neg h2,if_neg h3,if_neg h4]
  exact absurd ⟨by rw[e],by rw[e]⟩ hv
theorem Tk(l:List UInt8)(i:Nat)(hi:i<l.length)(hv: ¬((Lib.decodeL (l.drop i)).1=65533∧(Lib.decodeL (l.drop i)).2=1))(hr:(Lib.decodeL (l.drop i)).1<=65535):dH l i=some (((Lib.decodeL (l.drop i)).1:Int),(Lib.decodeL (l.drop i)).2):=by rw[Lib.decodeL_N,List.length_drop,Lib.getD_dropU,Lib.getD_dropU,Lib.getD_dropU,Lib.getD_dropU,Nat.add_zero]at hv hr⊢;unfold dH kq two' kB;rw[nx,nx,nx];exact Tl i l.length _ _ _ _ hi (l.getD i 0).toNat_lt hv hr
def Got(p:Int->Bool)(s:ByteArray)(pos:Nat)(xs:List Int):Prop:=
 xs.all p=true∧Lib.validD (s.data.toList.drop pos)=true∧xs.length<=pos∧ ∃f,s.size<=pos+f∧lets s.data.toList=(gT s.data.toList f pos).map (xs++ ·)
section
variable{p:Int->Bool}{s:ByteArray}{pos:Nat}{xs:List Int}
theorem Got.start(h:Lib.validD s.data.toList=true):Got p s 0 []:=by refine⟨rfl,by simpa using h,ae _,s.data.toList.length,by simp, ?_⟩;unfold lets;cases gT s.data.toList s.data.toList.length 0<;>simp
theorem Got.step(h:Got p s pos xs)(hl:pos<s.size)(hp:p ((Utf8.decode s pos).1:Int)=true)(hb: ∀c,p c=true->c<=65535):Got p s (pos+(Utf8.decode s pos).2) (xs++ [((Utf8.decode s pos).1:Int)]):=by
 obtain⟨h1,h2,h3,f,h4,h5⟩:=h;rw[<-Lib.decodeL_drop]at hp⊢;have cC:s.data.toList.drop pos≠ []:=by intro e;have:=congrArg List.length e;simp at this;omega
 rw[Lib.validD_step _ cC]at h2;have hv: ¬((Lib.decodeL (s.data.toList.drop pos)).1=65533∧(Lib.decodeL (s.data.toList.drop pos)).2=1):=fun e=>by rw[if_pos e]at h2;cases h2
 rw[if_neg hv,List.drop_drop]at h2;have hd:=Tk s.data.toList pos (by simpa using hl) hv (by have:=hb _ hp;omega);have hw:=Lib.decodeL_width (s.data.toList.drop pos);obtain⟨f,rfl⟩: ∃f',f=f'+1:=⟨f-1,by omega⟩;refine⟨by rw[List.all_append,h1];simp[hp],h2,by simp;omega,f,by omega, ?_⟩;exact nM h5 (by simpa using hl) hd
theorem Got.done(h:Got p s pos xs)(hl: ¬pos<s.size):lets s.data.toList=some xs:=by obtain⟨_,_,_,f,_,h5⟩:=h;exact EM h5 (by simpa using hl)
end
structure kE(base:Nat)(dz:World):Prop where
 valid: ∀(s:ByteArray) (w:World),s.size<=4194304->Below base dz w->Calls prog 241 #[.string s] w fun e w'=>e= .returned (.bool (Lib.validD s.data.toList))∧Below w.heap.size w w'
 split: ∀(s:ByteArray) (w:World),s.size<=4194304->Below base dz w->Calls prog 133 #[.string s, .string ⟨#[32]⟩] w fun e w'=>e= .returned (.slice (some ⟨w.heap.size,0,none⟩) (bW 32 s.data.toList).length (bW 32 s.data.toList).length)∧w'=w.alloc (.cells (strs (bW 32 s.data.toList)).toArray 9)
 cut: ∀(s:ByteArray) (w:World),s.size<=4194304->Below base dz w->Calls prog 48 #[.string s, .string ⟨#[10]⟩] w fun e w'=>e= .returned (.tuple #[.string ⟨(Lib.cut s.data.toList [10]).1.toArray⟩, .string ⟨(Lib.cut s.data.toList [10]).2.1.toArray⟩, .bool (Lib.cut s.data.toList [10]).2.2])∧ ∃n,w'=w.drewN n
structure Tests(g:Nat)(p:Int->Bool):Prop where
 enter: ∀args w,(callFunc g args).run prog w= .ok (.enter g args) w
 says: ∀(r:Nat) (w:World),r<=1114111->Calls prog g #[.int .i32 r] w fun e w'=>e= .returned (.bool (p r))∧w'=w
 low: ∀c,p c=true->c<=65535
def kz(c:Int):Bool:=decide (48<=c) &&decide (c<=57)
theorem Aq:Tests 238 kz:=by
 refine⟨enters_of func238 (by kernel_rfl) rfl,fun r w hr=> ?_,fun c h=> ?_⟩
 ·unfold kz;by_cases h1:(48:Int)<=r<;>by_cases h2:(r:Int)<=57
  all_goals go_enter func238,ntmps238;go_wp2;go_ret;simp[h1,h2]
 ·unfold kz at h;simp only[bZ,decide_eq_true_eq]at h;omega
theorem qg:Tests 221 iZ:=by
 refine⟨enters_of func221 (by kernel_rfl) rfl,fun r w hr=> ?_,fun c h=> ?_⟩
 ·unfold iZ;by_cases h1:(97:Int)<=r<;>by_cases h2:(r:Int)<=122<;>by_cases h3:(945:Int)<=r<;>by_cases h4:(r:Int)<=969
  all_goals go_enter func221,ntmps221;go_wp2;go_ret;simp[h1,h2,h3,h4]
 ·unfold iZ at h;simp only[bZ,Bool.or_eq_true,decide_eq_true_eq]at h;omega
theorem sJ:Tests 222 ja:=by
 refine⟨enters_of func222 (by kernel_rfl) rfl,fun r w hr=> ?_,fun c h=> ?_⟩
 ·unfold ja;by_cases h1:(33:Int)<=r<;>by_cases h2:(r:Int)<=126<;>by_cases h3:(161:Int)<=r<;>by_cases h4:(r:Int)<=65535
  all_goals go_enter func222,ntmps222;go_wp2;go_ret;simp[h1,h2,h3,h4]
 ·unfold ja at h;simp only[bZ,Bool.or_eq_true,decide_eq_true_eq]at h;omega
variable{p:Int->Bool}
theorem Ut(i len a b c d:Nat)(ha:a<256)(r:Int)(n:Nat)(h:(if(a:Int)<128 then some ((a:Int),1)else if 194<=(a:Int)∧(a:Int)<224 then(if i+2<=len∧(decide (128<=(b:Int)) &&decide ((b:Int)<=191))=true then some (64*((a:Int) %32)+(b:Int) %64,2)else none)else if 224<=(a:Int)∧(a:Int)<240 then(if i+3<=len∧(decide (128<=(b:Int)) &&decide ((b:Int)<=191))=true∧(decide (128<=(c:Int)) &&decide ((c:Int)<=191))=true∧ ¬(64*(64*((a:Int) %16)+(b:Int) %64)+(c:Int) %64<2048∨55296<=64*(64*((a:Int) %16)+(b:Int) %64)+(c:Int) %64∧64*(64*((a:Int) %16)+(b:Int) %64)+(c:Int) %64<57344)then some (64*(64*((a:Int) %16)+(b:Int) %64)+(c:Int) %64,3)else none)else none)=some (r,n)):((Lib.decodeN (len-i) a b c d).1:Int)=r∧(Lib.decodeN (len-i) a b c d).2=n∧ ¬((Lib.decodeN (len-i) a b c d).1=65533∧(Lib.decodeN (len-i) a b c d).2=1):=by
 have on: ∀x:Nat,(decide (128<=(x:Int)) &&decide ((x:Int)<=191))=true->x/64=2:=fun x h=>by rw[bZ,decide_eq_true_eq,decide_eq_true_eq]at h;omega
 by_cases h1:a<128
 ·rw[if_pos (by omega)]at h;cases h;have e:Lib.decodeN (len-i) a b c d=(a,1):=by unfold Lib.decodeN;rw[if_pos h1]
  rw[e];exact⟨rfl,rfl,fun h=>by have:=h.1;dsimp only at this;omega⟩
 rw[if_neg (by omega)]at h;by_cases h2:194<=(a:Int)∧(a:Int)<224
 ·rw[if_pos h2]at h;split at h
  ·rename_i hc;have hb:=on b hc.2;cases h;have e:Lib.decodeN (len-i) a b c d=(a %32*64+b %64,2):=by unfold Lib.decodeN;rw[if_neg h1,if_pos (by omega),if_pos (by omega)]
   rw[e];exact⟨by simp only[Int.natCast_add,Int.natCast_mul,Int.natCast_emod];omega,rfl,fun h=>by have:=h.2;simp at this⟩
  ·cases h
 ·rw[if_neg h2]at h;by_cases h3:224<=(a:Int)∧(a:Int)<240
  ·rw[if_pos h3]at h;split at h
   ·rename_i hc;have hb:=on b hc.2.1;have Xy:=on c hc.2.2.1;have hn:=hc.2.2.2;cases h;have e:Lib.decodeN (len-i) a b c d=(a %16*4096+b %64*64+c %64,3):=by unfold Lib.decodeN;rw[if_neg h1,if_neg (by omega),if_pos (by omega),if_pos (by omega)]
    rw[e];exact⟨by simp only[Int.natCast_add,Int.natCast_mul,Int.natCast_emod];omega,rfl,fun h=>by have:=h.2;simp at this⟩
   ·cases h
  ·rw[if_neg h3]at h;cases h
theorem KS(l:List UInt8)(i:Nat){c:Int}{n:Nat}(h:dH l i=some (c,n)):((Lib.decodeL (l.drop i)).1:Int)=c∧(Lib.decodeL (l.drop i)).2=n∧ ¬((Lib.decodeL (l.drop i)).1=65533∧(Lib.decodeL (l.drop i)).2=1):=by rw[Lib.decodeL_N,List.length_drop,Lib.getD_dropU,Lib.getD_dropU,Lib.getD_dropU,Lib.getD_dropU,Nat.add_zero];unfold dH kq two' kB at h;rw[nx,nx,nx]at h;exact Ut i l.length _ _ _ _ (l.getD i 0).toNat_lt c n h
theorem RM(l:List UInt8): ∀(f i:Nat) (xs:List Int),gT l f i=some xs->Lib.validD (l.drop i)=true:=by
 have wQ: ∀i,¬i<l.length->Lib.validD (l.drop i)=true:=fun i hl=>by rw[List.drop_eq_nil_of_le (by omega)];simp[Lib.validD,Lib.validGoD]
 intro f
 induction f with
 |zero=>
  intro i xs h;by_cases hl:i<l.length
  ·unfold gT fD at h;rw[if_pos hl]at h;cases h
  ·exact wQ i hl
 |succ f ih=>
  intro i xs h;by_cases hl:i<l.length
  ·cases hn:dH l i with
   |none=>unfold gT at h;rw[sL _ _ hl hn]at h;cases h
   |some p=>
    obtain⟨c,n⟩:=p;unfold gT at h;rw[oN _ _ _ _ hl hn]at h;cases hr:fD (dH l) l.length f (i+n)with
    |none=>rw[hr]at h;cases h
    |some ys=>
     have Mt:=ih (i+n) ys hr;obtain⟨h1,h2,h3⟩:=KS l i hn;have cC:l.drop i≠ []:=by intro e;have:=congrArg List.length e;simp at this;omega
     rw[Lib.validD_step _ cC,if_neg h3,List.drop_drop,h2];exact Mt
  ·exact wQ i hl
theorem JL{most:Nat}{l:List UInt8}(h:Lib.validD l=false):iG p most l=false:=by
 cases hl:lets l with
 |none=>exact pk hl
 |some xs=>have:=RM l _ 0 xs hl;rw[List.drop_zero,h]at this;cases this
theorem Got.not{s:ByteArray}{pos:Nat}{xs:List Int}(h:Got p s pos xs)(hl:pos<s.size)(hp:p ((Utf8.decode s pos).1:Int)=false)(most:Nat):iG p most s.data.toList=false:=by
 obtain⟨_,_,_,f,h4,h5⟩:=h;cases V1:lets s.data.toList with
 |none=>exact pk V1
 |some ys=>
  rw[l7 V1];rw[V1]at h5;obtain⟨f,rfl⟩: ∃f',f=f'+1:=⟨f-1,by omega⟩;have PL:pos<s.data.toList.length:=by simpa using hl
  unfold gT fD at h5;rw[if_pos PL]at h5;cases hn:dH s.data.toList pos with
  |none=>rw[hn]at h5;cases h5
  |some q=>
   obtain⟨c,n⟩:=q;rw[hn]at h5;dsimp only at h5;obtain⟨h1,_,_⟩:=KS _ _ hn;rw[Lib.decodeL_drop]at h1;rw[h1]at hp;cases hr:fD (dH s.data.toList) s.data.toList.length f (pos+n)with
   |none=>rw[hr]at h5;cases h5
   |some zs=>rw[hr]at h5;simp only[Option.map_some,Option.some.injEq]at h5;rw[h5];simp[hp]
theorem pT{base:Nat}{dz:World}(L:kE base dz)(g:Nat)(p:Int->Bool)(T:Tests g p)(s:ByteArray)(most:Nat)(w:World)(hs:s.size<=4194304)(hb:Below base dz w):Calls prog 220 #[.string s, .int .i64 most, .func (.func g) #[] #[]] w (fun e w'=>e= .returned (.bool (iG p most s.data.toList))∧Below w.heap.size w w'):=by
 have HV:Hid (Calls prog 241 #[.string s] w fun e w'=>e= .returned (.bool (Lib.validD s.data.toList))∧Below w.heap.size w w'):=L.valid s w hs hb;have eg:=T.enter;have HT:Hid (Tests g p):=T;clear T hb;go_enter func220,ntmps220;go_wp2_with fail;refine HV.out.mono ?_;rintro e w1⟨rfl,hb1⟩;clear HV;cases hv:Lib.validD s.data.toList
 ·have HW:Hid (iG p most s.data.toList=false):=JL hv;clear hv;go_wp2;go_ret;exact⟨cO HW.out.symm,hb1⟩
 ·have HG:Hid (Got p s 0 []):=Got.start hv;clear hv;have dN:=hb1.size;go_wp2;go_loopw [7] (fun c wr=> ∃(pos:Nat) (xs:List Int),c= .int .i64 xs.length∧Hid (Got p s pos xs)∧xs.length<=pos∧wr.heap[w1.heap.size]?=some (.stringIter s pos)∧Below w.heap.size w wr) (fun _ wr=>s.size-wr.iterPos w1.heap.size)
  case atStart=>exact⟨0, [],rfl,HG,ae _,World.iter_heap w1 s 0,hb1.alloc dN _⟩
  case round=>
   obtain⟨pos,xs,rfl,Y6,hxp,hit,yz⟩:=hrel;by_cases ay:pos<s.size
   ·have V4: ∀ty,(Instr.next (.pointer (some ⟨w1.heap.size,0,none⟩)) true ty).run prog wr=_:=fun ty=>Lib.run_next_any_at wr w1.heap.size s pos ty hit ay;have hwd:=Lib.width_pos s pos;have og:=Lib.rune_le s pos;have XM:=Lib.iterAt_heap wr w1.heap.size s pos (pos+(Utf8.decode s pos).2) hit;have LY:=Lib.below_iterAt yz (k:=w1.heap.size) dN s (pos+(Utf8.decode s pos).2);have jr:Hid (p ((Utf8.decode s pos).1:Int)=false->iG p most s.data.toList=false):=fun hp=>Y6.out.not ay hp most;have iP:Hid (p ((Utf8.decode s pos).1:Int)=true->Got p s (pos+(Utf8.decode s pos).2) (xs++ [((Utf8.decode s pos).1:Int)])):=fun hp=>Y6.out.step ay hp HT.out.low;obtain⟨W,hWd⟩: ∃W,wr.iterAt w1.heap.size s (pos+(Utf8.decode s pos).2)=W:=⟨_,rfl⟩;rw[hWd]at V4 XM LY;have hip:s.size-W.iterPos w1.heap.size<s.size-wr.iterPos w1.heap.size:=by
     unfold World.iterPos;rw[hit,XM];simp;omega
    generalize(Utf8.decode s pos).1=R at*;generalize(Utf8.decode s pos).2=K at*;have HS:Hid (Calls prog g #[.int .i32 (R:Int)] W fun e w'=>e= .returned (.bool (p R))∧w'=W):=HT.out.says R W og;clear HT HG Y6 hit yz hWd;cases hp:p (R:Int)
    ·rw[hp]at HS;have HW:Hid (iG p most s.data.toList=false):=jr.out hp;clear hp iP jr;go_wp2_with (go_at_fn g;refine HS.out.mono ?_;rintro e W'⟨rfl,rfl⟩);go_ret;exact⟨cO HW.out.symm,LY⟩
    ·rw[hp]at HS;have pn:Hid (Got p s (pos+K) (xs++ [(R:Int)])):=iP.out hp;clear hp iP jr;go_wp2_with (go_at_fn g;refine HS.out.mono ?_;rintro e W'⟨rfl,rfl⟩);go_roundw
     case rel=>exact⟨pos+K,xs++ [(R:Int)],by simp,pn,by simp;omega,XM,LY⟩
     case measure=>exact hip
   ·have V4: ∀ty,(Instr.next (.pointer (some ⟨w1.heap.size,0,none⟩)) true ty).run prog wr=_:=fun ty=>Lib.run_next_end_at wr w1.heap.size s pos ty hit ay;have HL:Hid (iG p most s.data.toList=(decide (1<=xs.length) &&decide (xs.length<=most))):=by
     rw[l7 (Y6.out.done ay),Y6.out.1];rfl
    clear Y6 HG HT;have hxm:xs.length<=4194304+pos:=by omega
    generalize xs.length=n at*;by_cases h1:(1:Int)<=n<;>by_cases h2:(n:Int)<=most
    all_goals go_wp2;go_ret;exact⟨cO (by rw[HL.out];simp;omega),yz⟩
