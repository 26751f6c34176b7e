import Derived.Test.YtffamlbkmjmipaaGreatDoorC07
import Derived.OwnWalk
import Derived.Lib.ValidLaws
import Derived.Lib.OthersKept
import Derived.Lib.Split
import Derived.Shelf.Abstract
import Derived.Laws.RangeAny
import Derived.Maps.RangeWalk
set_option maxHeartbeats 8000000
set_option maxRecDepth 100000
namespace Go.Proofs.YtffamlbkmjmipaaGreatDoor
open _root_.Go.Proofs.Tryz
namespace bG
open Go.RowKit
def mV(c:UInt8):Bool:=decide (48<=(c.toNat:Int)) &&decide ((c.toNat:Int)<=57)
def od(l:List UInt8):Bool:=l.all mV
def lA(l:List UInt8):Int:=l.foldl (fun n c=>10*n+((c.toNat:Int)-48)) 0
theorem tY(l:List UInt8)(c:UInt8):lA (l++ [c])=10*lA l+((c.toNat:Int)-48):=by simp[lA,List.foldl_append]
theorem th(l:List UInt8)(c:UInt8):od (l++ [c])=(od l &&mV c):=by simp[od]
def cM(l:List UInt8):Int×Bool:=
 if decide (1<=l.length) &&decide (l.length<=6) && !(l.head?==some 48 &&decide (1<l.length)) &&od l then(lA l,true)else(0,false)
theorem head_eq(s:ByteArray)(h:0<s.size):s.data.toList.head?=some s[0]:=by
 have h':0<s.data.toList.length:=by simpa using h
 rw[List.head?_eq_getElem?,aY h'];rfl
theorem Z9{a:UInt8}{n:Nat}(hn:n<256)(h:((a.toNat:Int)==(n:Int))=true):a=n.toUInt8:=by
 apply UInt8.toNat.inj;rw[beq_iff_eq]at h;have e:(n.toUInt8).toNat=n:=by simp[Nat.toUInt8];omega
 rw[e];omega
theorem DI(s:ByteArray)(h1:1<s.size)(h:((s[0].toNat:Int)==48)=true):cM s.data.toList=(0,false):=by
 unfold cM;rw[if_neg];have e:s.data.toList.length=s.size:=by simp
 have e2:s[0]=48:=Z9 (n:=48) (by omega) h;rw[head_eq s (by omega),e2,e];simp;omega
theorem Tt(s:ByteArray)(h0:1<=s.size)(h6:s.size<=6)(h: ¬(1<s.size∧((s[0].toNat:Int)==48)=true))(hd:od s.data.toList=true):cM s.data.toList=(lA s.data.toList,true):=by
 unfold cM;rw[if_pos];have e:s.data.toList.length=s.size:=by simp
 rw[head_eq s (by omega),e,hd];simp[h0,h6];by_cases e2:s[0]=48
 ·right;rw[e2]at h;simp at h;omega
 ·exact Or.inl e2
theorem Q6(l:List UInt8)(h:od l=true):0<=lA l∧lA l<10 ^l.length:=by
 rw[<-List.reverse_reverse l]at h⊢;generalize l.reverse=r at h⊢
 induction r with
 |nil=>simp[lA]
 |cons c r ih=>rw[List.reverse_cons,th,bm]at h;have:=ih h.1;have h2:=h.2;simp only[mV,bm,decide_eq_true_eq]at h2;rw[List.reverse_cons,tY,aH,List.length_singleton,Int.pow_succ];omega
variable{l:List UInt8}{f i:Nat}{xs:List Int}
def byteAt(l:List UInt8)(i:Nat):Int:=((l[i]?.getD 0).toNat:Int)
def wy(l:List UInt8)(i:Nat):Bool:=decide (128<=byteAt l i) &&decide (byteAt l i<=191)
def two'(l:List UInt8)(i:Nat):Int:=64*(byteAt l i %32)+byteAt l (i+1) %64
def tW(l:List UInt8)(i:Nat):Int:=64*(64*(byteAt l i %16)+byteAt l (i+1) %64)+byteAt l (i+2) %64
def gP(l:List UInt8)(i:Nat):Option (Int×Nat):=
 if byteAt l i<128 then some (byteAt l i,1)
 else if 194<=byteAt l i∧byteAt l i<224 then(if i+2<=l.length∧wy l (i+1)=true then some (two' l i,2)else none)
 else if 224<=byteAt l i∧byteAt l i<240 then(if i+3<=l.length∧wy l (i+1)=true∧wy l (i+2)=true∧ ¬(tW l i<2048∨55296<=tW l i∧tW l i<57344)then some (tW l i,3)else none)
 else none
def dN(la:Nat->Option (Int×Nat))(len:Nat):Nat->Nat->Option (List Int)
 |0,i=>if i<len then none else some []
 |f+1,i=>if i<len then(match la i with|none=>none|some (c,n)=>(dN la len f (i+n)).map (c:: ·))else some []
section
variable{la:Nat->Option (Int×Nat)}{len:Nat}
theorem nL(f i:Nat)(h: ¬i<len):dN la len f i=some []:=by cases f<;>simp[dN,h]
theorem yl(f i:Nat)(h:i<len)(hn:la i=none):dN la len f i=none:=by cases f<;>simp[dN,h,hn]
theorem lU(f i n:Nat)(c:Int)(h:i<len)(hn:la i=some (c,n)):dN la len (f+1) i=(dN la len f (i+n)).map (c:: ·):=by simp[dN,h,hn]
theorem KI(o:Option (List Int))(xs:List Int)(c:Int):(o.map (c:: ·)).map (xs++ ·)=o.map ((xs++ [c])++ ·):=by cases o<;>simp
theorem J0{R:Option (List Int)}{f i n:Nat}{c:Int}{xs:List Int}(hr:R=(dN la len (f+1) i).map (xs++ ·))(h:i<len)(hn:la i=some (c,n)):R=(dN la len f (i+n)).map ((xs++ [c])++ ·):=by rw[hr,lU f i n c h hn,KI]
theorem Nr{R:Option (List Int)}{f i:Nat}{xs:List Int}(hr:R=(dN la len f i).map (xs++ ·))(h: ¬i<len):R=some xs:=by rw[hr,nL f i h];simp
end
def jw(l:List UInt8)(f i:Nat):Option (List Int):=dN (gP l) l.length f i
def lets(l:List UInt8):Option (List Int):=jw l l.length 0
theorem KG{n:Nat}{c:Int}(hr:lets l=(jw l (f+1) i).map (xs++ ·))(h:i<l.length)(hn:gP l i=some (c,n)):lets l=(jw l f (i+n)).map ((xs++ [c])++ ·):=J0 hr h hn
theorem PZ(hr:lets l=(jw l f i).map (xs++ ·))(h: ¬i<l.length):lets l=some xs:=Nr hr h
theorem KE(l:List UInt8)(i:Nat)(h:byteAt l i<128):gP l i=some (byteAt l i,1):=if_pos h
theorem s9(l:List UInt8)(i:Nat):0<=byteAt l i∧byteAt l i<=255:=by unfold byteAt;have:=(l[i]?.getD 0).toNat_lt;omega
section
variable(s:ByteArray)(i:Nat)
theorem slen:s.data.toList.length=s.size:=by simp
end
def ints(l:List Int):List Value:=l.map fun x=> .int .i64 x
def Me(l:List UInt8)(w:World)(e:Ending)(w':World):Prop:=
 (lets l=none∧e= .returned (.tuple #[.slice none 0 0, .bool false])∧Below w.heap.size w w')∨
 (∃xs v,lets l=some xs∧e= .returned (.tuple #[v, .bool true])∧w'.ownsRow w.heap.size 3 1 v xs.length (ints xs)∧Below w.heap.size w w')
def ue:Prop:= ∀(s:ByteArray) (w:World),s.size<=4194304->Calls prog 144 #[.string s] w (Me s.data.toList w)
variable{w:World}{base n most:Nat}{xs:List Int}{p:Int->Bool}{l:List UInt8}
def gA(c:Int):Bool:=(decide (97<=c) &&decide (c<=122))||(decide (945<=c) &&decide (c<=969))
def gB(c:Int):Bool:=(decide (33<=c) &&decide (c<=126))||(decide (161<=c) &&decide (c<=65535))
def gp(p:Int->Bool)(most:Nat)(l:List UInt8):Bool:=match lets l with
 |some xs=>xs.all p &&decide (1<=xs.length) &&decide (xs.length<=most)
 |none=>false
def tV(l:List UInt8):Bool:=gp gA 6 l
def mh(l:List UInt8):Bool:=gp gB 12 l
theorem shape{e:TypeId}{size:Nat}{v:Value}{xs:List Value}(h:w.ownsRow base e size v n xs): ∃ao cap,v= .slice ao n cap∧(0<n-> ∃g,ao=some ⟨g,0,none⟩∧base<=g):=by
 rcases h.2 with⟨rfl,rfl⟩|⟨g,cap,cur,rfl,hb,_⟩
 ·exact⟨none,0,rfl,fun h=>absurd h (by omega)⟩
 ·exact⟨_,cap,rfl,fun _=>⟨g,rfl,hb⟩⟩
theorem De{g cap:Nat}(h:w.ownsRow base 3 1 (.slice (some ⟨g,0,none⟩) n cap) n (ints xs)){k:Nat}(hk:k<n)(hn:n=xs.length):w.cell? ⟨g,k,none⟩=some (.int .i64 (xs.getD k 0)):=by subst hn;rw[h.cellAt k (by omega),ints,List.getElem?_map,aY hk];simp[hk]
theorem Ci(p:Int->Bool)(xs:List Int)(k:Nat)(h:k<xs.length):(xs.take (k+1)).all p=((xs.take k).all p &&p (xs.getD k 0)):=by rw[iG h,List.all_append];simp[h]
theorem jG(h:lets l=some xs):gp p most l=(xs.all p &&decide (1<=xs.length) &&decide (xs.length<=most)):=by unfold gp;rw[h]
theorem mm(h:lets l=none):gp p most l=false:=by unfold gp;rw[h]
theorem Nk(n most:Nat)(m:Int)(hm:m=(most:Int))(h1:1<=n):decide ((n:Int)<=m)=(true &&decide (1<=n) &&decide (n<=most)):=by subst hm;simp[h1]
theorem cH{a b:Bool}(h:a=b):Ending.returned (.bool a)= .returned (.bool b):=by rw[h]
theorem Ad{la:Nat->Option (Int×Nat)}{len:Nat}: ∀(f i:Nat) (xs:List Int),dN la len f i=some xs->xs.length<=f
 |0,i,xs,h=>by
  unfold dN at h;split at h
  ·cases h
  ·cases h;simp
 |f+1,i,xs,h=>by
  unfold dN at h;split at h
  ·split at h
   ·cases h
   ·rename_i c n _;cases hr:dN la len f (i+n)with
    |none=>rw[hr]at h;cases h
    |some ys=>rw[hr]at h;cases h;have:=Ad f (i+n) ys hr;simp;omega
  ·cases h;simp
theorem Dy{s:ByteArray}(h:lets s.data.toList=some xs)(hs:s.size<=4194304):xs.length<=1000000000:=by have:=Ad _ _ xs h;rw[slen]at this;omega
theorem yN(AB:ue)(s:ByteArray)(w:World)(hs:s.size<=4194304):Calls prog 96 #[.string s] w fun e w'=>e= .returned (.bool (tV s.data.toList))∧Below w.heap.size w w':=by
 go_enter func96,ntmps96;go_wp2_with fail;refine(AB s _ hs).mono ?_;rintro e w1(⟨hl,rfl,bT⟩|⟨xs,v,hl,rfl,cY,bT⟩)
 ·have HL:Hid (tV s.data.toList=false):=mm hl;clear hl;go_wp2
  go_loop [4,14] (fun o i=>o= .bool false∧i= .int .i64 0) (fun _ _=>0)
  case atStart=>exact⟨rfl,rfl⟩
  case round=>obtain⟨rfl,rfl⟩:=hrel;go_wp2;go_ret;exact⟨cH HL.out.symm,bT⟩
 ·have HL:Hid (tV s.data.toList=(xs.all gA &&decide (1<=xs.length) &&decide (xs.length<=6))):=jG hl;have Kw:xs.length<=1000000000:=Dy hl hs;clear hl;obtain⟨ao,cap,rfl,bQ⟩:=shape cY;have vG:Hid (0<xs.length-> ∃g,ao=some ⟨g,0,none⟩∧w.heap.size<=g):=bQ;clear bQ;go_wp2
  go_loop [4,14] (fun o i=> ∃(k:Nat) (bb:Bool),k<=xs.length∧i= .int .i64 k∧o= .bool bb∧Hid (bb=(xs.take k).all gA)) (fun _ i=>xs.length-(intOf i).toNat)
  case atStart=>exact⟨0,true,bh _,rfl,rfl,rfl⟩
  case round=>
   obtain⟨k,bb,hk,rfl,rfl,HB⟩:=hrel;by_cases aN:k<xs.length
   ·obtain⟨g,rfl,_⟩:=vG.out (by omega);have NC:=De cY aN rfl;have HS:Hid ((xs.take (k+1)).all gA=(bb &&gA (xs.getD k 0))):=by rw[HB.out];exact Ci _ _ _ aN
    clear cY;generalize xs.getD k 0=c at*;cases bb
    ·go_wp2
     go_round
     case rel=>exact⟨k+1,false,by omega,by go_num,rfl,by rw[HS.out];rfl⟩
     case measure=>simp[intOf];omega
    ·have hcs:(c<97)∨(97<=c∧c<=122)∨(122<c∧c<945)∨(945<=c∧c<=969)∨(969<c):=by omega
     rcases hcs with hq|hq|hq|hq|hq
     ·have HP:Hid (gA c=false):=by simp[gA,Hid];omega
      have abC:decide (97<=c)=false:=by simp;omega
      have Zh:decide (945<=c)=false:=by simp;omega
      go_wp2
      go_round
      case rel=>exact⟨k+1,false,by omega,by go_num,rfl,by rw[HS.out,HP.out];rfl⟩
      case measure=>simp[intOf];omega
     ·have HP:Hid (gA c=true):=by simp[gA,Hid];omega
      obtain⟨uZ,ux⟩:=hq;go_wp2
      go_round
      case rel=>exact⟨k+1,true,by omega,by go_num,rfl,by rw[HS.out,HP.out];rfl⟩
      case measure=>simp[intOf];omega
     ·have HP:Hid (gA c=false):=by simp[gA,Hid];omega
      obtain⟨uZ,ux⟩:=hq;have Uu:decide (c<=122)=false:=by simp;omega
      have Zh:decide (945<=c)=false:=by simp;omega
      go_wp2
      go_round
      case rel=>exact⟨k+1,false,by omega,by go_num,rfl,by rw[HS.out,HP.out];rfl⟩
      case measure=>simp[intOf];omega
     ·have HP:Hid (gA c=true):=by simp[gA,Hid];omega
      obtain⟨uZ,ux⟩:=hq;have Uu:decide (c<=122)=false:=by simp;omega
      go_wp2
      go_round
      case rel=>exact⟨k+1,true,by omega,by go_num,rfl,by rw[HS.out,HP.out];rfl⟩
      case measure=>simp[intOf];omega
     ·have HP:Hid (gA c=false):=by simp[gA,Hid];omega
      have Uu:decide (c<=122)=false:=by simp;omega
      have abo:decide (c<=969)=false:=by simp;omega
      go_wp2
      go_round
      case rel=>exact⟨k+1,false,by omega,by go_num,rfl,by rw[HS.out,HP.out];rfl⟩
      case measure=>simp[intOf];omega
   ·obtain rfl:k=xs.length:=by omega
    have HT:Hid (tV s.data.toList=(bb &&decide (1<=xs.length) &&decide (xs.length<=6))):=by rw[HL.out,HB.out,List.take_length];rfl
    cases bb
    ·go_wp2;go_ret;exact⟨cH (by rw[HT.out];rfl),bT⟩
    ·by_cases h1:1<=xs.length
     ·have h1d:decide (1<=(xs.length:Int))=true:=by simp;omega
      go_wp2;go_ret;exact⟨cH (by rw[HT.out];exact Nk _ _ _ rfl h1),bT⟩
     ·have h1d:decide (1<=(xs.length:Int))=false:=by simp;omega
      go_wp2;go_ret;exact⟨cH (by rw[HT.out];simp[h1]),bT⟩
theorem Em(AB:ue)(s:ByteArray)(w:World)(hs:s.size<=4194304):Calls prog 95 #[.string s] w fun e w'=>e= .returned (.bool (mh s.data.toList))∧Below w.heap.size w w':=by
 go_enter func95,ntmps95;go_wp2_with fail;refine(AB s _ hs).mono ?_;rintro e w1(⟨hl,rfl,bT⟩|⟨xs,v,hl,rfl,cY,bT⟩)
 ·have HL:Hid (mh s.data.toList=false):=mm hl;clear hl;go_wp2
  go_loop [4,14] (fun o i=>o= .bool false∧i= .int .i64 0) (fun _ _=>0)
  case atStart=>exact⟨rfl,rfl⟩
  case round=>obtain⟨rfl,rfl⟩:=hrel;go_wp2;go_ret;exact⟨cH HL.out.symm,bT⟩
 ·have HL:Hid (mh s.data.toList=(xs.all gB &&decide (1<=xs.length) &&decide (xs.length<=12))):=jG hl;have Kw:xs.length<=1000000000:=Dy hl hs;clear hl;obtain⟨ao,cap,rfl,bQ⟩:=shape cY;have vG:Hid (0<xs.length-> ∃g,ao=some ⟨g,0,none⟩∧w.heap.size<=g):=bQ;clear bQ;go_wp2
  go_loop [4,14] (fun o i=> ∃(k:Nat) (bb:Bool),k<=xs.length∧i= .int .i64 k∧o= .bool bb∧Hid (bb=(xs.take k).all gB)) (fun _ i=>xs.length-(intOf i).toNat)
  case atStart=>exact⟨0,true,bh _,rfl,rfl,rfl⟩
  case round=>
   obtain⟨k,bb,hk,rfl,rfl,HB⟩:=hrel;by_cases aN:k<xs.length
   ·obtain⟨g,rfl,_⟩:=vG.out (by omega);have NC:=De cY aN rfl;have HS:Hid ((xs.take (k+1)).all gB=(bb &&gB (xs.getD k 0))):=by rw[HB.out];exact Ci _ _ _ aN
    clear cY;generalize xs.getD k 0=c at*;cases bb
    ·go_wp2
     go_round
     case rel=>exact⟨k+1,false,by omega,by go_num,rfl,by rw[HS.out];rfl⟩
     case measure=>simp[intOf];omega
    ·have hcs:(c<33)∨(33<=c∧c<=126)∨(126<c∧c<161)∨(161<=c∧c<=65535)∨(65535<c):=by omega
     rcases hcs with hq|hq|hq|hq|hq
     ·have HP:Hid (gB c=false):=by simp[gB,Hid];omega
      have abA:decide (33<=c)=false:=by simp;omega
      have Zg:decide (161<=c)=false:=by simp;omega
      go_wp2
      go_round
      case rel=>exact⟨k+1,false,by omega,by go_num,rfl,by rw[HS.out,HP.out];rfl⟩
      case measure=>simp[intOf];omega
     ·have HP:Hid (gB c=true):=by simp[gB,Hid];omega
      obtain⟨uZ,ux⟩:=hq;go_wp2
      go_round
      case rel=>exact⟨k+1,true,by omega,by go_num,rfl,by rw[HS.out,HP.out];rfl⟩
      case measure=>simp[intOf];omega
     ·have HP:Hid (gB c=false):=by simp[gB,Hid];omega
      obtain⟨uZ,ux⟩:=hq;have Uv:decide (c<=126)=false:=by simp;omega
      have Zg:decide (161<=c)=false:=by simp;omega
      go_wp2
      go_round
      case rel=>exact⟨k+1,false,by omega,by go_num,rfl,by rw[HS.out,HP.out];rfl⟩
      case measure=>simp[intOf];omega
     ·have HP:Hid (gB c=true):=by simp[gB,Hid];omega
      obtain⟨uZ,ux⟩:=hq;have Uv:decide (c<=126)=false:=by simp;omega
      go_wp2
      go_round
      case rel=>exact⟨k+1,true,by omega,by go_num,rfl,by rw[HS.out,HP.out];rfl⟩
      case measure=>simp[intOf];omega
     ·have HP:Hid (gB c=false):=by simp[gB,Hid];omega
      have Uv:decide (c<=126)=false:=by simp;omega
      have aac:decide (c<=65535)=false:=by simp;omega
      go_wp2
      go_round
      case rel=>exact⟨k+1,false,by omega,by go_num,rfl,by rw[HS.out,HP.out];rfl⟩
      case measure=>simp[intOf];omega
   ·obtain rfl:k=xs.length:=by omega
    have HT:Hid (mh s.data.toList=(bb &&decide (1<=xs.length) &&decide (xs.length<=12))):=by rw[HL.out,HB.out,List.take_length];rfl
    cases bb
    ·go_wp2;go_ret;exact⟨cH (by rw[HT.out];rfl),bT⟩
    ·by_cases h1:1<=xs.length
     ·have h1d:decide (1<=(xs.length:Int))=true:=by simp;omega
      go_wp2;go_ret;exact⟨cH (by rw[HT.out];exact Nk _ _ _ rfl h1),bT⟩
     ·have h1d:decide (1<=(xs.length:Int))=false:=by simp;omega
      go_wp2;go_ret;exact⟨cH (by rw[HT.out];simp[h1]),bT⟩
def a6:List (List UInt8)->Mg×Bool
 | []=>(⟨[],0,0, [], []⟩,false)
 | [k]=>(⟨k,0,0, [], []⟩,k==eY||k==eX||k==cU)
 | [k,a]=>if k=gW then(⟨k,(cM a).1,0, [], []⟩,(cM a).2)else(⟨k,0,0, [], []⟩,false)
 | [k,a,b]=>if k=kFail then(⟨k,(cM a).1,(cM b).1, [], []⟩,(cM a).2 &&(cM b).2)else(⟨k,0,0, [], []⟩,false)
 | [k,a,b,t]=>if k=bO then(⟨k,(cM a).1,(cM b).1, [],t⟩,(cM a).2 &&(cM b).2 &&mh t)
   else if k=fT then(⟨k,(cM a).1,0,b,t⟩,(cM a).2 &&tV b &&mh t)else(⟨k,0,0, [], []⟩,false)
 |k::_=>(⟨k,0,0, [], []⟩,false)
def gH(l:List UInt8):Mg×Bool:=a6 (bB 32 l)
theorem cut_small{s:ByteArray}{c:UInt8}(hs:s.size<=4194304): ∀x∈bB c s.data.toList,x.length<=4194304:=by
 have h:=vW c s.data.toList;rw[show s.data.toList.length=s.size from by simp]at h;intro x hx;unfold bB at hx;rw[List.mem_append]at hx;rcases hx with hx|hx
 ·have:=h.2.2 x hx;omega
 ·simp at hx;subst hx;have:=h.2.1;omega
theorem M0(c:UInt8)(l:List UInt8):bB c l≠ []:=by unfold bB;simp
theorem kj{w w1:World}(h:Below w.heap.size w w1)(v0 v1 v2 v3 v4:Value):Below w.heap.size w (((((w1.setCell ⟨w.heap.size,0,none⟩ v0).setCell ⟨w.heap.size,1,none⟩ v1).setCell ⟨w.heap.size,2,none⟩ v2).setCell ⟨w.heap.size,3,none⟩ v3).setCell ⟨w.heap.size,4,none⟩ v4):=
 ((((h.setCell (af _) _).setCell (af _) _).setCell (af _) _).setCell (af _) _).setCell (af _) _
end bG
namespace ud
open Go.RowKit
theorem rY{w:World}{base:Nat}{e:TypeId}{size:Nat}{v:Value}{n:Nat}{xs:List Value}(h:w.ownsRow base e size v n xs): ∃ao cap,v= .slice ao n cap∧n<=cap∧(0<n-> ∃g,ao=some ⟨g,0,none⟩):=by
 rcases h.2 with⟨h,h0⟩|⟨g,cap,cur,h,_,_,hn,_⟩
 ·exact⟨none,0,by rw[h,h0],by omega,fun hh=>absurd hh (by omega)⟩
 ·exact⟨_,cap,h,hn,fun _=>⟨g,rfl⟩⟩
end ud
namespace bG
open Go.RowKit
theorem kM(l:List UInt8)(i:Nat):byteAt l i=((l.getD i 0).toNat:Int):=rfl
theorem Sg(i len a b c d:Nat)(hi:i<len)(ha:a<256)(hv: ¬((Lib.decodeN (len-i) a b c d).1=65533∧(Lib.decodeN (len-i) a b c d).2=1))(hr:(Lib.decodeN (len-i) a b c d).1<=65535):(if(a:Int)<128 then some ((a:Int),1)else if 194<=(a:Int)∧(a:Int)<224 then(if i+2<=len∧(decide (128<=(b:Int)) &&decide ((b:Int)<=191))=true then some (64*((a:Int) %32)+(b:Int) %64,2)else none)else if 224<=(a:Int)∧(a:Int)<240 then(if i+3<=len∧(decide (128<=(b:Int)) &&decide ((b:Int)<=191))=true∧(decide (128<=(c:Int)) &&decide ((c:Int)<=191))=true∧ ¬(64*(64*((a:Int) %16)+(b:Int) %64)+(c:Int) %64<2048∨55296<=64*(64*((a:Int) %16)+(b:Int) %64)+(c:Int) %64∧64*(64*((a:Int) %16)+(b:Int) %64)+(c:Int) %64<57344)then some (64*(64*((a:Int) %16)+(b:Int) %64)+(c:Int) %64,3)else none)else none)=some (((Lib.decodeN (len-i) a b c d).1:Int),(Lib.decodeN (len-i) a b c d).2):=by
 have on: ∀x:Nat,x/64=2->(decide (128<=(x:Int)) &&decide ((x:Int)<=191))=true:=fun x h=>by rw[bm,decide_eq_true_eq,decide_eq_true_eq];omega
 by_cases h1:a<128
 ·have e:Lib.decodeN (len-i) a b c d=(a,1):=by unfold Lib.decodeN;rw[if_pos h1]
  rw[e,if_pos (by omega)]
 rw[if_neg (by omega)];by_cases h2:a/32=6∧(1<len-i∧b/64=2)
 ·by_cases h3:a %32*64+b %64≥128
  ·have e:Lib.decodeN (len-i) a b c d=(a %32*64+b %64,2):=by unfold Lib.decodeN;rw[if_neg h1,if_pos h2,if_pos h3]
   rw[e,if_pos (by omega),if_pos ⟨by omega,on b h2.2.2⟩];congr 2;simp only[Int.natCast_add,Int.natCast_mul,Int.natCast_emod];omega
  ·have e:Lib.decodeN (len-i) a b c d=(65533,1):=by unfold Lib.decodeN;rw[if_neg h1,if_pos h2,if_neg h3]
   exact absurd ⟨by rw[e],by rw[e]⟩ hv
 by_cases h3:a/16=14∧(1<len-i∧b/64=2)∧(2<len-i∧c/64=2)
 ·by_cases h4:a %16*4096+b %64*64+c %64≥2048∧(a %16*4096+b %64*64+c %64<55296∨(57344<=a %16*4096+b %64*64+c %64∧a %16*4096+b %64*64+c %64<=1114111))
  ·have e:Lib.decodeN (len-i) a b c d=(a %16*4096+b %64*64+c %64,3):=by unfold Lib.decodeN;rw[if_neg h1,if_neg h2,if_pos h3,if_pos h4]
   rw[e,if_neg (by omega),if_pos (by omega),if_pos ⟨by omega,on b h3.2.1.2,on c h3.2.2.2,by omega⟩];congr 2;simp only[Int.natCast_add,Int.natCast_mul,Int.natCast_emod];omega
  ·have e:Lib.decodeN (len-i) a b c d=(65533,1):=by unfold Lib.decodeN;rw[if_neg h1,if_neg h2,if_pos h3,if_neg h4]
   exact absurd ⟨by rw[e],by rw[e]⟩ hv
 exfalso;by_cases h4:a/8=30∧(1<len-i∧b/64=2)∧(2<len-i∧c/64=2)∧(3<len-i∧d/64=2)
 ·by_cases h5:a %8*262144+b %64*4096+c %64*64+d %64≥65536∧(a %8*262144+b %64*4096+c %64*64+d %64<55296∨(57344<=a %8*262144+b %64*4096+c %64*64+d %64∧a %8*262144+b %64*4096+c %64*64+d %64<=1114111))
  ·have e:Lib.decodeN (len-i) a b c d=(a %8*262144+b %64*4096+c %64*64+d %64,4):=by unfold Lib.decodeN;rw[if_neg h1,if_neg h2,if_neg h3,if_pos h4,if_pos h5]
   rw[e]at hr;have:=h5.1;simp only at hr;omega
  ·have e:Lib.decodeN (len-i) a b c d=(65533,1):=by unfold Lib.decodeN;rw[if_neg h1,if_neg h2,if_neg h3,if_pos h4,if_neg h5]
   exact absurd ⟨by rw[e],by rw[e]⟩ hv
 ·have e:Lib.decodeN (len-i) a b c d=(65533,1):=by unfold Lib.decodeN;rw[if_neg h1,if_neg h2,if_neg h3,if_neg h4]
  exact absurd ⟨by rw[e],by rw[e]⟩ hv
theorem Sc(l:List UInt8)(i:Nat)(hi:i<l.length)(hv: ¬((Lib.decodeL (l.drop i)).1=65533∧(Lib.decodeL (l.drop i)).2=1))(hr:(Lib.decodeL (l.drop i)).1<=65535):gP l i=some (((Lib.decodeL (l.drop i)).1:Int),(Lib.decodeL (l.drop i)).2):=by rw[Lib.decodeL_N,List.length_drop,Lib.getD_dropU,Lib.getD_dropU,Lib.getD_dropU,Lib.getD_dropU,Nat.add_zero]at hv hr⊢;unfold gP wy two' tW;rw[kM,kM,kM];exact Sg i l.length _ _ _ _ hi (l.getD i 0).toNat_lt hv hr
def Got(p:Int->Bool)(s:ByteArray)(pos:Nat)(xs:List Int):Prop:=
 xs.all p=true∧Lib.validD (s.data.toList.drop pos)=true∧xs.length<=pos∧ ∃f,s.size<=pos+f∧lets s.data.toList=(jw s.data.toList f pos).map (xs++ ·)
section
variable{p:Int->Bool}{s:ByteArray}{pos:Nat}{xs:List Int}
theorem Got.start(h:Lib.validD s.data.toList=true):Got p s 0 []:=by refine⟨rfl,by simpa using h,af _,s.data.toList.length,by simp, ?_⟩;unfold lets;cases jw s.data.toList s.data.toList.length 0<;>simp
theorem Got.step(h:Got p s pos xs)(hl:pos<s.size)(hp:p ((Utf8.decode s pos).1:Int)=true)(hb: ∀c,p c=true->c<=65535):Got p s (pos+(Utf8.decode s pos).2) (xs++ [((Utf8.decode s pos).1:Int)]):=by
 obtain⟨h1,h2,h3,f,h4,h5⟩:=h;rw[<-Lib.decodeL_drop]at hp⊢;have cA:s.data.toList.drop pos≠ []:=by intro e;have:=congrArg List.length e;simp at this;omega
 rw[Lib.validD_step _ cA]at h2;have hv: ¬((Lib.decodeL (s.data.toList.drop pos)).1=65533∧(Lib.decodeL (s.data.toList.drop pos)).2=1):=fun e=>by rw[if_pos e]at h2;cases h2
 rw[if_neg hv,List.drop_drop]at h2;have hd:=Sc s.data.toList pos (by simpa using hl) hv (by have:=hb _ hp;omega);have hw:=Lib.decodeL_width (s.data.toList.drop pos);obtain⟨f,rfl⟩: ∃f',f=f'+1:=⟨f-1,by omega⟩;refine⟨by rw[List.all_append,h1];simp[hp],h2,by simp;omega,f,by omega, ?_⟩;exact KG h5 (by simpa using hl) hd
theorem Got.done(h:Got p s pos xs)(hl: ¬pos<s.size):lets s.data.toList=some xs:=by obtain⟨_,_,_,f,_,h5⟩:=h;exact PZ h5 (by simpa using hl)
end
variable{c:UInt8}{a:List UInt8}
theorem zW(h:c∉a): ∀(d:List (List UInt8)) (x:List UInt8),a.foldl (dz c) (d,x)=(d,x++a):=by
 induction a with
 |nil=>intro d x;simp
 |cons b a ih=>intro d x;have hb:b≠c:=fun e=>h (e▸bY ..);rw[List.foldl_cons];unfold dz;rw[if_neg hb];have:=ih (fun e=>h (aV _ e)) d (x++ [b]);unfold dz at this;rw[this];simp
theorem JZ(c:UInt8)(l:List UInt8): ∀(d d':List (List UInt8)) (x:List UInt8),l.foldl (dz c) (d++d',x)=(d++(l.foldl (dz c) (d',x)).1,(l.foldl (dz c) (d',x)).2):=by
 induction l with
 |nil=>intro d d' x;rfl
 |cons b l ih=>
  intro d d' x;rw[List.foldl_cons,List.foldl_cons];unfold dz;by_cases hb:b=c
  ·rw[if_pos hb,if_pos hb];have:=ih d (d'++ [x]) [];unfold dz at this;simp only[List.append_assoc]at this⊢;exact this
  ·rw[if_neg hb,if_neg hb];exact ih d d' (x++ [b])
theorem gS(h:c∉a):bB c a= [a]:=by unfold bB gu;rw[zW h];simp
theorem dQ{b:List UInt8}(h:c∉a):bB c (a++c::b)=a::bB c b:=by
 unfold bB gu;rw[List.foldl_append,zW h,List.foldl_cons];have e:dz c ([], []++a) c=([a]++ [], []):=by unfold dz;rw[if_pos rfl];simp
 rw[e,JZ];simp
theorem Bi(c:UInt8): ∀s:List UInt8,(Lib.index s [c]= -1∧c∉s)∨ ∃i:Nat,Lib.index s [c]=i∧s=s.take i++c::s.drop (i+1)∧c∉s.take i
 | []=>Or.inl ⟨rfl,by simp⟩
 |b::l=>by
  by_cases hb:c=b
  ·subst hb;refine Or.inr ⟨0, ?_,rfl,by simp⟩;have hp:([c].isPrefixOf (c::l))=true:=by simp[List.isPrefixOf]
   unfold Lib.index;rw[hp];rfl
  ·have hp:([c].isPrefixOf (b::l))=false:=by simp[List.isPrefixOf,hb]
   rcases Bi c l with⟨h1,h2⟩|⟨i,h1,h2,h3⟩
   ·refine Or.inl ⟨?_,by simp[hb,h2]⟩;unfold Lib.index;rw[hp,h1];rfl
   ·refine Or.inr ⟨i+1, ?_, ?_,by simp[hb,h3]⟩
    ·unfold Lib.index;rw[hp,h1];have:((i:Int)== -1)=false:=by rw[beq_eq_false_iff_ne];omega
     simp[this]
    ·simp only[List.take_succ_cons,List.drop_succ_cons,List.cons_append];rw[<-h2]
theorem Ar(c:UInt8): ∀(n:Nat) (s:List UInt8),s.length<=n->Lib.splitK [c] 0 (Lib.count s [c]) s=bB c s∧(bB c s).length=Lib.count s [c]+1
 |n,s,hn=>by
  rcases Bi c s with⟨h1,h2⟩|⟨i,h1,h2,h3⟩
  ·rw[Lib.count_miss h1,gS h2];exact⟨rfl,rfl⟩
  ·have hlen:s.length=(s.take i).length+(1+(s.drop (i+1)).length):=by
    conv=>lhs;rw[h2]
    simp;omega
   match n,hn with
   |0,hn=>omega
   |n+1,hn=>
    obtain⟨ih1,ih2⟩:=Ar c n (s.drop (i+1)) (by omega);have hc:bB c s=s.take i::bB c (s.drop (i+1)):=by
     conv=>lhs;rw[h2]
     exact dQ h3
    rw[Lib.count_hit (by simp) h1,hc];refine⟨?_,by simp only[List.length_cons,List.length_nil,ih2,Nat.zero_add];omega⟩;rw[Nat.add_comm 1,Lib.splitK,h1];have:((i:Int)== -1)=false:=by rw[beq_eq_false_iff_ne];omega
    rw[this];simp only[Bool.false_eq_true,if_false,Int.toNat_natCast,Nat.add_zero,List.length_cons,List.length_nil,Nat.zero_add];rw[ih1]
theorem Hn(c:UInt8)(s:ByteArray):(Lib.splitB ⟨#[c]⟩ 0 (Lib.countB s ⟨#[c]⟩) s).map Value.string=strs (bB c s.data.toList)∧Lib.countB s ⟨#[c]⟩+1=(bB c s.data.toList).length:=by have h:=Lib.splitB_data ⟨#[c]⟩ 0 (Lib.countB s ⟨#[c]⟩) s;obtain⟨h1,h2⟩:=Ar c s.data.toList.length s.data.toList (af _);have hc:Lib.countB s ⟨#[c]⟩=Lib.count s.data.toList [c]:=rfl;rw[hc]at h⊢;refine⟨?_,h2.symm⟩;have h':(Lib.splitB ⟨#[c]⟩ 0 (Lib.count s.data.toList [c]) s).map (·.data.toList)=bB c s.data.toList:=h.trans h1;unfold strs;rw[<-h',aB];refine bz (fun x _=> ?_);simp
theorem R9(c:UInt8)(s:List UInt8):(Lib.cut s [c]=(s, [],false)∧bB c s= [s]∧c∉s)∨ ∃a b,Lib.cut s [c]=(a,b,true)∧bB c s=a::bB c b∧c∉a∧s=a++c::b:=by
 rcases Bi c s with⟨h1,h2⟩|⟨i,h1,h2,h3⟩
 ·refine Or.inl ⟨?_,gS h2,h2⟩;unfold Lib.cut;rw[h1];rfl
 ·refine Or.inr ⟨s.take i,s.drop (i+1), ?_, ?_,h3,h2⟩
  ·unfold Lib.cut;rw[h1,if_pos (by omega)];simp
  ·conv=>lhs;rw[h2]
   exact dQ h3
structure iP(base:Nat)(cg:World):Prop where
 valid: ∀(s:ByteArray) (w:World),s.size<=4194304->Below base cg w->Calls prog 241 #[.string s] w fun e w'=>e= .returned (.bool (Lib.validD s.data.toList))∧Below w.heap.size w w'
 split: ∀(s:ByteArray) (w:World),s.size<=4194304->Below base cg w->Calls prog 133 #[.string s, .string ⟨#[32]⟩] w fun e w'=>e= .returned (.slice (some ⟨w.heap.size,0,none⟩) (bB 32 s.data.toList).length (bB 32 s.data.toList).length)∧w'=w.alloc (.cells (strs (bB 32 s.data.toList)).toArray 9)
 cut: ∀(s:ByteArray) (w:World),s.size<=4000000000000000->Below base cg w->Calls prog 48 #[.string s, .string ⟨#[10]⟩] w fun e w'=>e= .returned (.tuple #[.string ⟨(Lib.cut s.data.toList [10]).1.toArray⟩, .string ⟨(Lib.cut s.data.toList [10]).2.1.toArray⟩, .bool (Lib.cut s.data.toList [10]).2.2])∧ ∃n,w'=w.drewN n
structure Tests(g:Nat)(p:Int->Bool):Prop where
 enter: ∀args w,(callFunc g args).run prog w= .ok (.enter g args) w
 says: ∀(r:Nat) (w:World),r<=1114111->Calls prog g #[.int .i32 r] w fun e w'=>e= .returned (.bool (p r))∧w'=w
 low: ∀c,p c=true->c<=65535
def iN(c:Int):Bool:=decide (48<=c) &&decide (c<=57)
theorem zA:Tests 238 iN:=by
 refine⟨enters_of func238 (by kernel_rfl) rfl,fun r w hr=> ?_,fun c h=> ?_⟩
 ·unfold iN;by_cases h1:(48:Int)<=r<;>by_cases h2:(r:Int)<=57
  all_goals go_enter func238,ntmps238;go_wp2;go_ret;simp[h1,h2]
 ·unfold iN at h;simp only[bm,decide_eq_true_eq]at h;omega
theorem mW:Tests 221 gA:=by
 refine⟨enters_of func221 (by kernel_rfl) rfl,fun r w hr=> ?_,fun c h=> ?_⟩
 ·unfold gA;by_cases h1:(97:Int)<=r<;>by_cases h2:(r:Int)<=122<;>by_cases h3:(945:Int)<=r<;>by_cases h4:(r:Int)<=969
  all_goals go_enter func221,ntmps221;go_wp2;go_ret;simp[h1,h2,h3,h4]
 ·unfold gA at h;simp only[bm,Bool.or_eq_true,decide_eq_true_eq]at h;omega
theorem qc:Tests 222 gB:=by
 refine⟨enters_of func222 (by kernel_rfl) rfl,fun r w hr=> ?_,fun c h=> ?_⟩
 ·unfold gB;by_cases h1:(33:Int)<=r<;>by_cases h2:(r:Int)<=126<;>by_cases h3:(161:Int)<=r<;>by_cases h4:(r:Int)<=65535
  all_goals go_enter func222,ntmps222;go_wp2;go_ret;simp[h1,h2,h3,h4]
 ·unfold gB at h;simp only[bm,Bool.or_eq_true,decide_eq_true_eq]at h;omega
end bG
namespace Pj
open Go.RowKit aJ Go.Maps
theorem iX{α β:Type}{f:α->β}{l:List α}(h:(l.map f).Nodup):l.Nodup:=by
 induction l with
 |nil=>simp
 |cons x l ih=>rw[List.map_cons,List.nodup_cons]at h;exact List.nodup_cons.2 ⟨fun hm=>h.1 (az.2 ⟨x,hm,rfl⟩),ih h.2⟩
theorem SY{α β:Type}{f:α->β}{l:List α}(h:(l.map f).Nodup){x y:α}(hx:x∈l)(hy:y∈l)(e:f x=f y):x=y:=by
 have h':=List.pairwise_iff_getElem.1 h;obtain⟨i,hi,rfl⟩:=List.getElem_of_mem hx;obtain⟨j,hj,rfl⟩:=List.getElem_of_mem hy;rcases Nat.lt_trichotomy i j with h2|h2|h2
 ·exact absurd (by rw[List.getElem_map,List.getElem_map];exact e) (h' i j (by simpa using hi) (by simpa using hj) h2)
 ·subst h2;rfl
 ·exact absurd (by rw[List.getElem_map,List.getElem_map];exact e.symm) (h' j i (by simpa using hj) (by simpa using hi) h2)
section
variable{P:Program}{k:TypeId}{κ:Type}
def Walk(K:Kd P k κ)(b r:Nat)(m seen:List (κ×Nat))(w:World):Prop:=
 (seen.map (·.1)).Nodup∧(∀x∈seen,x∈m)∧ ∃D left cnt,w.ranges P k asIs b r m.length D left cnt∧Yn K D m∧(∀x∈m,left (K.lk x.1)=true↔x.1∉seen.map (·.1))∧ ∀kl,left kl=true-> ∃x∈m,kl=K.lk x.1
variable{K:Kd P k κ}{b r:Nat}{m seen:List (κ×Nat)}{w w':World}{F:Ft}
theorem Walk.kept{row:Option Nat}(h:Walk K b r m seen w)(hg:w.grownBy w' row)(hb:some b≠row)(hr:some r≠row):Walk K b r m seen w':=by obtain⟨h1,h2,D,left,cnt,h3,h4⟩:=h;exact⟨h1,h2,D,left,cnt,h3.kept hg hb hr,h4⟩
theorem grown_of(h:Below w.heap.size w w'):w.grownBy w' none:=⟨h.os,h.tape,h.output,h.size,fun i hi _=>h.block i hi⟩
theorem Walk.below(h:Walk K b r m seen w)(hg:Below w.heap.size w w'):Walk K b r m seen w':=h.kept (grown_of hg) (by simp) (by simp)
variable{ops:Array Oper}{rest:List Oper}{o:Oper}{a:Act}{Q:Exit->Act->World->Prop}
theorem uT(w:World)(hg:o.guard=none)(mo:Operand)(t:TypeId)(hop:o.op=Op.range t mo)(e:TypeId)(ht:P.underlying t=some (.map k e))(K:Kd P k κ)(b:Nat)(m:List (κ×Nat))(hm:a.eval mo= .map (some b))(h:(mapA K b m).holds w F)(hK: ∀w',Walk K b w.heap.size m [] w'->Below w.heap.size w w'->w'.heap.size=w.heap.size+1->wpList P ops Q rest (a.put o.dst (.pointer (some ⟨w.heap.size,0,none⟩))) w'):wpList P ops Q (o::rest) a w:=by obtain⟨_,D,hD,hM⟩:=h;refine wpList_range_own w hg mo t hop k e K.keyed ht asIs b m.length D hm hD fun w' h1 h2 h3=> ?_;refine hK w' ⟨by simp,⟨fun x hx=>(List.not_mem_nil hx).elim,D,_,_,h1,hM,fun x hx=> ?_,fun kl tE=>hM.no kl tE⟩⟩ ⟨h2.os,h2.tape,h2.output,h2.size,fun i hi=>h2.block i hi (by simp)⟩ h3;simp[(hM.at' x hx).1]
theorem lB [DecidableEq κ](w:World)(hg:o.guard=none)(it:Operand)(hop:o.op=Op.next it false)(K:Kd P k κ)(b r:Nat)(m seen:List (κ×Nat))(hit:a.eval it= .pointer (some ⟨r,0,none⟩))(h:Walk K b r m seen w)(YX:seen.Perm m->wpList P ops Q rest (a.put o.dst (.tuple #[.bool false])) w)(Y1: ∀(x:κ×Nat) (kv:Value) (w':World),x∈m->x∉seen->Walk K b r m (seen++ [x]) w'->w'.rangeLeft b r<w.rangeLeft b r->w.grownBy w' (some r)->w'.heap.size=w.heap.size->(Instr.entry (.pointer (some ⟨r,0,none⟩))).run P w'= .ok (.tuple #[kv,pt x.2]) w'->wpList P ops Q rest (a.put o.dst (.tuple #[.bool true,kv,pt x.2])) w'):wpList P ops Q (o::rest) a w:=by
 obtain⟨h1,h2,D,left,cnt,h3,hM,h5,h6⟩:=h;refine wpList_next_ranges w hg it hop k K.keyed asIs (fun v:Value=>v) (fun v:Value=>v) (fun key kl _=>⟨key,rfl⟩) (fun v y _=>⟨v,rfl⟩) b r m.length D left cnt hit h3 (fun _ hl=>YX ?_) (fun kv c kl y w' aao _ nH hv mN hrg aN hgr dc SJ=> ?_)
 ·have BX:seen.Nodup:=iX h1;have Rm:m.Nodup:=iX hM.nd;refine(List.perm_ext_iff_of_nodup BX Rm).2 fun x=>⟨h2 x,fun hx=> ?_⟩;apply Classical.byContradiction;intro hn;refine absurd ((h5 x hx).2 fun hm=>hn ?_) (by rw[hl];simp);obtain⟨y,hy,e⟩:=az.1 hm;rw[<-SY hM.nd (h2 y hy) hx e];exact hy
 ·obtain⟨x,hx,rfl⟩:=h6 kl nH;cases hv;have ec:c=pt x.2:=by
   have e1:=mN (.held c);rw[(hM.at' x hx).2]at e1;cases e1;rfl
  subst ec;have hns:x.1∉seen.map (·.1):=(h5 x hx).1 nH;refine Y1 x kv w' hx (fun hm=>hns (az.2 ⟨x,hm,rfl⟩)) ⟨?_,fun y hy=> ?_,D,_,aao,hrg,hM,fun y hy=> ?_,fun kl' NL=>h6 kl' (by simp only[bm]at NL;exact NL.1)⟩ (by rw[hrg.left_eq,h3.left_eq];exact aN) hgr dc SJ
  ·rw[aD,List.nodup_append];refine⟨h1,by simp,fun u hu v hv e=>hns ?_⟩;simp at hv;rw[<-hv,<-e];exact hu
  ·rcases List.mem_append.1 hy with e|e
   ·exact h2 y e
   ·rw[b9.1 e];exact hx
  ·have ZI:=WideAt.sameKey_self (K.lit x.1);simp only[bm,Bool.not_eq_true',h5 y hy,aD,List.mem_append,List.map_cons,List.map_nil,b9,not_or];refine and_congr_right fun _=> ?_;constructor
   ·intro hf e;rw[e,ZI]at hf;cases hf
   ·intro cA;cases hs:(K.lk y.1).sameKey (K.lk x.1)with
    |false=>rfl
    |true=>exact absurd (K.inj _ _ (WideAt.sameKey_eq hs)) cA
