import Derived.Test.YtffamlbkmjmipaaGreatDoorB16
set_option maxHeartbeats 8000000
set_option maxRecDepth 100000
namespace Go.Proofs.YtffamlbkmjmipaaGreatDoor
open _root_.Go.Proofs.Tryz
namespace bJ
open Go.RowKit
theorem xD{a:Int}(h:128<=a∧a<=191): ¬a<128∧ ¬191<a:=⟨by omega,by omega⟩
theorem EO(s:ByteArray)(w:World)(hs:s.size<=4194304):Calls prog 144 #[.string s] w (Dc s.data.toList w):=by
 obtain⟨i0,hi,gI,dN,fS⟩:=info_parts Ui;have e0:s.data.toList.length=s.size:=by simp
 have E0:Hid (s.data.toList.length=s.size):=e0;clear e0;go_enter func144,ntmps144;go_wp2;go_loopw [4,5] (fun o ip wr=> ∃(i f:Nat) (xs:List Int),i<=s.size∧ip= .int .i64 i∧xs.length<=i∧s.size<=i+f∧wr.ownsRow w.heap.size 3 1 o xs.length (ints xs)∧Below w.heap.size w wr∧Hid (lets s.data.toList=(gT s.data.toList f i).map (xs++ ·))) (fun _ ip _=>s.size-(intOf ip).toNat)
 case atStart=>refine⟨0,s.size, [],aJ _,rfl,by simp,by omega,World.ownsRow_nil _ _ _ _,ah _ _, ?_⟩;show _=_;have e:=E0.out;rw[lets,e];simp
 case round=>
  obtain⟨i,f,xs,dM,rfl,IC,hf,a8,hB,HR⟩:=hrel;have hz:=hB.size;by_cases ay:i<s.size
  ·have rE:(s[i].toNat:Int)<=255:=by have:=s[i].toNat_lt;omega
   have Hh:Hid (i<s.data.toList.length):=(slen s).symm▸ay;obtain⟨f,rfl⟩: ∃f',f=f'+1:=⟨f-1,by omega⟩;by_cases hA:(s[i].toNat:Int)<128
   ·have HL:Hid (dH s.data.toList i=some ((s[i].toNat:Int),1)):=Uu s i ay hA;have C7:Hid (lets s.data.toList=(gT s.data.toList f (i+1)).map ((xs++ [(s[i].toNat:Int)])++ ·)):=nM HR.out Hh.out HL.out;go_wp2
    go_loop [6,8] (fun x k=>x= .int .i64 (s[i].toNat:Int)∧k= .int .i64 1) (fun _ _=>0)
    case atStart=>exact⟨rfl,rfl⟩
    case round=>
     obtain⟨rfl,rfl⟩:=hrel;go_wp2_with (at_builtin;go_must(refine wpList_append_lies _ rfl _ _ 36 rfl w.heap.size 3 i0 (.int .i64 0) 1 8 underlying36 hi gI dN fS rfl (by decide) _ _ _ rfl (a8.alloc _) ⟨wr.heap.size,0,none⟩ 1 1 [.int .i64 ((s[i].toNat:Int))] rfl rfl ?c1 ?c2 (by decide) ?c3 ?c4 ?c5 (wr.heap.size+1) (by simp) ?main))
     case c2=>rfl
     case c3=>unfold maxLen;omega
     case c4=>omega
     case c5=>omega
     case main=>
      intro g1 kn w1 nE gR rD TX;have hB1:Below w.heap.size w w1:=(hB.alloc hz _).grown gR (by simp;omega) (fun q hq=>(a8.lt q hq).1);go_wp2;go_roundw
      case rel=>exact⟨i+1,f,xs++ [(s[i].toNat:Int)],by omega,by go_num,by simp;omega,by omega,by rw[qR,aN];exact nE,hB1,C7⟩
      case measure=>simp[intOf];omega
   by_cases hM:(s[i].toNat:Int)<194∨240<=(s[i].toNat:Int)
   ·have HL:Hid (lets s.data.toList=none):=fE HR.out Hh.out (Us s i ay hA hM);rcases hM with hM|hM
    ·have rF:decide (194<=(s[i].toNat:Int))=false:=by simp;omega
     have ld:decide (224<=(s[i].toNat:Int))=false:=by simp;omega
     go_wp2
     go_ret2
     exact Or.inl ⟨HL.out,rfl,hB⟩
    ·go_wp2
     go_ret2
     exact Or.inl ⟨HL.out,rfl,hB⟩
   by_cases hT:(s[i].toNat:Int)<224
   ·have A7:194<=(s[i].toNat:Int):=by omega
    by_cases oh:s.size<i+2
    ·have HL:Hid (lets s.data.toList=none):=fE HR.out Hh.out (Au s i ay A7 hT oh);clear hM;go_wp2
     go_ret2
     exact Or.inl ⟨HL.out,rfl,hB⟩
    have h1:i+1<s.size:=by omega
    have acp:(s[i+1].toNat:Int)<=255:=by have:=s[i+1].toNat_lt;omega
    clear hM;obtain⟨v2,Mo⟩: ∃v:Int,v=64*((s[i].toNat:Int) %32)+(s[i+1].toNat:Int) %64:=⟨_,rfl⟩;have HV:Hid (v2=64*((s[i].toNat:Int) %32)+(s[i+1].toNat:Int) %64):=Mo;clear Mo;go_wp2
    go_loop [6,8] (fun x k=>(x= .int .i64 ((s[i].toNat:Int) %32)∧k= .int .i64 1)∨(x= .int .i64 v2∧k= .int .i64 2∧Hid (¬(s[i+1].toNat:Int)<128∧ ¬191<(s[i+1].toNat:Int)))) (fun _ k=>2-(intOf k).toNat)
    case atStart=>exact Or.inl ⟨rfl,rfl⟩
    case round=>
     rcases hrel with⟨rfl,rfl⟩|⟨rfl,rfl,HD⟩
     ·by_cases R9:(s[i+1].toNat:Int)<128
      ·have HL:Hid (lets s.data.toList=none):=fE HR.out Hh.out (wh s i h1 A7 hT (Or.inl R9));go_wp2
       go_ret2
       exact Or.inl ⟨HL.out,rfl,hB⟩
      have hg:decide ((s[i+1].toNat:Int)<128)=false:=by simp;omega
      by_cases L4:191<(s[i+1].toNat:Int)
      ·have HL:Hid (lets s.data.toList=none):=fE HR.out Hh.out (wh s i h1 A7 hT (Or.inr L4));go_wp2
       go_ret2
       exact Or.inl ⟨HL.out,rfl,hB⟩
      have kQ:decide (191<(s[i+1].toNat:Int))=false:=by simp;omega
      have HD:Hid (¬(s[i+1].toNat:Int)<128∧ ¬191<(s[i+1].toNat:Int)):=⟨R9,L4⟩;go_wp2
      go_round
      case rel=>exact Or.inr ⟨by rw[HV.out],rfl,xD HD.out⟩
      case measure=>simp[intOf]
     ·have C7:Hid (lets s.data.toList=(gT s.data.toList f (i+2)).map ((xs++ [v2])++ ·)):=nM HR.out Hh.out (Mz s i h1 A7 hT HD.out.1 HD.out.2 HV.out);go_wp2_with (at_builtin;go_must(refine wpList_append_lies _ rfl _ _ 36 rfl w.heap.size 3 i0 (.int .i64 0) 1 8 underlying36 hi gI dN fS rfl (by decide) _ _ _ rfl (a8.alloc _) ⟨wr.heap.size,0,none⟩ 1 1 [.int .i64 v2] rfl rfl ?d1 ?d2 (by decide) ?d3 ?d4 ?d5 (wr.heap.size+1) (by simp) ?Qw))
      case d2=>rfl
      case d3=>unfold maxLen;omega
      case d4=>omega
      case d5=>omega
      case Qw=>
       intro g1 kn w1 nE gR rD TX;have hB1:Below w.heap.size w w1:=(hB.alloc hz _).grown gR (by simp;omega) (fun q hq=>(a8.lt q hq).1);go_wp2;go_roundw
       case rel=>exact⟨i+2,f,xs++ [v2],by omega,by go_num,by simp;omega,by omega,by rw[qR,aN];exact nE,hB1,C7⟩
       case measure=>simp[intOf];omega
   have A7:224<=(s[i].toNat:Int):=by omega
   have pX:(s[i].toNat:Int)<240:=by omega
   clear hM;by_cases oh:s.size<i+3
   ·have HL:Hid (lets s.data.toList=none):=fE HR.out Hh.out (wY s i ay A7 pX oh);go_wp2
    go_ret2
    exact Or.inl ⟨HL.out,rfl,hB⟩
   have h2:i+2<s.size:=by omega
   have h1:i+1<s.size:=by omega
   have acp:(s[i+1].toNat:Int)<=255:=by have:=s[i+1].toNat_lt;omega
   have adw:(s[i+2].toNat:Int)<=255:=by have:=s[i+2].toNat_lt;omega
   obtain⟨v1,Zp⟩: ∃v:Int,v=64*((s[i].toNat:Int) %16)+(s[i+1].toNat:Int) %64:=⟨_,rfl⟩;have HV1:Hid (v1=64*((s[i].toNat:Int) %16)+(s[i+1].toNat:Int) %64):=Zp;have adV:0<=v1∧v1<=1023:=by omega
   clear Zp;obtain⟨v3,hv3⟩: ∃v:Int,v=64*v1+(s[i+2].toNat:Int) %64:=⟨_,rfl⟩;have HV3:Hid (v3=64*v1+(s[i+2].toNat:Int) %64):=hv3;have adW:0<=v3∧v3<=65535:=by omega
   clear hv3;go_wp2
   go_loop [6,8] (fun x k=>(x= .int .i64 ((s[i].toNat:Int) %16)∧k= .int .i64 1)∨(x= .int .i64 v1∧k= .int .i64 2∧Hid (¬(s[i+1].toNat:Int)<128∧ ¬191<(s[i+1].toNat:Int)))∨(x= .int .i64 v3∧k= .int .i64 3∧Hid ((¬(s[i+1].toNat:Int)<128∧ ¬191<(s[i+1].toNat:Int))∧(¬(s[i+2].toNat:Int)<128∧ ¬191<(s[i+2].toNat:Int))))) (fun _ k=>4-(intOf k).toNat)
   case atStart=>exact Or.inl ⟨rfl,rfl⟩
   case round=>
    rcases hrel with⟨rfl,rfl⟩|⟨rfl,rfl,HD⟩|⟨rfl,rfl,HD⟩
    ·by_cases R9:(s[i+1].toNat:Int)<128
     ·have HL:Hid (lets s.data.toList=none):=fE HR.out Hh.out (qi s i h2 A7 pX (Or.inl R9));go_wp2
      go_ret2
      exact Or.inl ⟨HL.out,rfl,hB⟩
     have hg:decide ((s[i+1].toNat:Int)<128)=false:=by simp;omega
     by_cases L4:191<(s[i+1].toNat:Int)
     ·have HL:Hid (lets s.data.toList=none):=fE HR.out Hh.out (qi s i h2 A7 pX (Or.inr L4));go_wp2
      go_ret2
      exact Or.inl ⟨HL.out,rfl,hB⟩
     have kQ:decide (191<(s[i+1].toNat:Int))=false:=by simp;omega
     have HD:Hid (¬(s[i+1].toNat:Int)<128∧ ¬191<(s[i+1].toNat:Int)):=⟨R9,L4⟩;go_wp2
     go_round
     case rel=>exact Or.inr (Or.inl ⟨by rw[HV1.out],rfl,xD HD.out⟩)
     case measure=>simp[intOf]
    ·by_cases R9:(s[i+2].toNat:Int)<128
     ·have HL:Hid (lets s.data.toList=none):=fE HR.out Hh.out (qj s i h2 A7 pX (Or.inl R9));go_wp2
      go_ret2
      exact Or.inl ⟨HL.out,rfl,hB⟩
     have hg:decide ((s[i+2].toNat:Int)<128)=false:=by simp;omega
     by_cases L4:191<(s[i+2].toNat:Int)
     ·have HL:Hid (lets s.data.toList=none):=fE HR.out Hh.out (qj s i h2 A7 pX (Or.inr L4));go_wp2
      go_ret2
      exact Or.inl ⟨HL.out,rfl,hB⟩
     have kQ:decide (191<(s[i+2].toNat:Int))=false:=by simp;omega
     have Ss:Hid ((¬(s[i+1].toNat:Int)<128∧ ¬191<(s[i+1].toNat:Int))∧(¬(s[i+2].toNat:Int)<128∧ ¬191<(s[i+2].toNat:Int))):=⟨HD.out,R9,L4⟩;go_wp2
     go_round
     case rel=>exact Or.inr (Or.inr ⟨by rw[HV3.out],rfl,And.intro (xD Ss.out.1) (xD Ss.out.2)⟩)
     case measure=>simp[intOf]
    ·obtain⟨sI,rG⟩:=EJ s i h2 A7 pX HD.out.1.1 HD.out.1.2 HD.out.2.1 HD.out.2.2 HV1.out HV3.out;by_cases BO:v3<2048
     ·have HL:Hid (lets s.data.toList=none):=fE HR.out Hh.out (sI (Or.inl BO));clear sI rG;go_wp2
      go_ret2
      exact Or.inl ⟨HL.out,rfl,hB⟩
     have adG:decide (v3<2048)=false:=by simp;omega
     by_cases XQ:55296<=v3
     ·by_cases pK:v3<57344
      ·have HL:Hid (lets s.data.toList=none):=fE HR.out Hh.out (sI (Or.inr ⟨XQ,pK⟩));clear sI rG;go_wp2
       go_ret2
       exact Or.inl ⟨HL.out,rfl,hB⟩
      ·have C7:Hid (lets s.data.toList=(gT s.data.toList f (i+3)).map ((xs++ [v3])++ ·)):=nM HR.out Hh.out (rG (by omega));have adI:decide (v3<57344)=false:=by simp;omega
       clear sI rG;go_wp2_with (at_builtin;go_must(refine wpList_append_lies _ rfl _ _ 36 rfl w.heap.size 3 i0 (.int .i64 0) 1 8 underlying36 hi gI dN fS rfl (by decide) _ _ _ rfl (a8.alloc _) ⟨wr.heap.size,0,none⟩ 1 1 [.int .i64 v3] rfl rfl ?e1 ?e2 (by decide) ?e3 ?e4 ?e5 (wr.heap.size+1) (by simp) ?abm))
       case e2=>rfl
       case e3=>unfold maxLen;omega
       case e4=>omega
       case e5=>omega
       case abm=>
        intro g1 kn w1 nE gR rD TX;have hB1:Below w.heap.size w w1:=(hB.alloc hz _).grown gR (by simp;omega) (fun q hq=>(a8.lt q hq).1);go_wp2;go_roundw
        case rel=>exact⟨i+3,f,xs++ [v3],by omega,by go_num,by simp;omega,by omega,by rw[qR,aN];exact nE,hB1,C7⟩
        case measure=>simp[intOf];omega
     ·have C7:Hid (lets s.data.toList=(gT s.data.toList f (i+3)).map ((xs++ [v3])++ ·)):=nM HR.out Hh.out (rG (by omega));have adH:decide (55296<=v3)=false:=by simp;omega
      clear sI rG;go_wp2_with (at_builtin;go_must(refine wpList_append_lies _ rfl _ _ 36 rfl w.heap.size 3 i0 (.int .i64 0) 1 8 underlying36 hi gI dN fS rfl (by decide) _ _ _ rfl (a8.alloc _) ⟨wr.heap.size,0,none⟩ 1 1 [.int .i64 v3] rfl rfl ?f1 ?f2 (by decide) ?f3 ?f4 ?f5 (wr.heap.size+1) (by simp) ?abn))
      case f2=>rfl
      case f3=>unfold maxLen;omega
      case f4=>omega
      case f5=>omega
      case abn=>
       intro g1 kn w1 nE gR rD TX;have hB1:Below w.heap.size w w1:=(hB.alloc hz _).grown gR (by simp;omega) (fun q hq=>(a8.lt q hq).1);go_wp2;go_roundw
       case rel=>exact⟨i+3,f,xs++ [v3],by omega,by go_num,by simp;omega,by omega,by rw[qR,aN];exact nE,hB1,C7⟩
       case measure=>simp[intOf];omega
  ·go_wp2
   go_ret2
   exact Or.inr ⟨xs,_,EM HR.out (by rw[E0.out];exact ay),rfl,a8,hB⟩
