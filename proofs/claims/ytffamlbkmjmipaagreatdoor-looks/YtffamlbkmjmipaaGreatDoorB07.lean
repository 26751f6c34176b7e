import Derived.Test.YtffamlbkmjmipaaGreatDoorB05
import Derived.Maps.OwnSet
import Derived.Shelf.Strings.BuilderK
import Derived.BigCall
set_option maxHeartbeats 8000000
set_option maxRecDepth 100000
namespace Go.Proofs.YtffamlbkmjmipaaGreatDoor
open _root_.Go.Proofs.Tryz
namespace Pj
open Go.RowKit aM Go.Maps
def asIs(v:Value):Option (DataW Value×List MemPlace):=some (.held v, [])
def pt(p:Nat):Value:= .pointer (some ⟨p,0,none⟩)
structure Kd(P:Program)(k:TypeId)(κ:Type) where
 keyed:Keyed P k
 lk:κ->Lit
 val:κ->Value
 ok:κ->Prop
 key: ∀c,ok c->keyOf P k (val c)=some (lk c)
 inj: ∀c d,lk c=lk d->c=d
 lit: ∀c,WideAt.IsKeyLit (lk c)
section
variable{P:Program}{k:TypeId}{κ:Type}
structure aab(K:Kd P k κ)(D:DataW Value)(m:List (κ×Nat)):Prop where
 nd:(m.map (·.1)).Nodup
 sz:Maps.size D=m.length
 at': ∀x∈m,has D (K.lk x.1)=true∧ ∀z,D.atKey (K.lk x.1) z= .held (pt x.2)
 no: ∀kl,has D kl=true-> ∃x∈m,kl=K.lk x.1
def mapA(K:Kd P k κ)(b:Nat)(m:List (κ×Nat)):aM where
 holds w F:=(∀x,F x↔x=b)∧ ∃D:DataW Value,w.ownsMap P k asIs b m.length D∧aab K D m
 lt h x hx:=by obtain⟨hF,D,hD,_⟩:=h;obtain rfl:=(hF x).1 hx;exact hD.lt
 keep h hk:=by obtain⟨hF,D,⟨es,clock,h1,h2⟩,h3⟩:=h;exact⟨hF,D,⟨es,clock,(hk b ((hF b).2 rfl)).trans h1,h2⟩,h3⟩
theorem tight{R:Value->Option (DataW Value×List MemPlace)}{w:World}{b n:Nat}{D:DataW Value}(h:w.ownsMap P k R b n D):w.ownsMap P k R b (Maps.size D) D:=by obtain⟨es,clock,h1,h2,h3,rfl⟩:=h;exact⟨es,clock,h1,h2,by simp[Maps.size,length_sorted],rfl⟩
variable{K:Kd P k κ}{w:World}{F:Ft}{b:Nat}{m:List (κ×Nat)}
theorem wE{w w':World}{b:Nat}(h:w.mapTurned w' b):Only (fun k=>k=b) w w':=by have hg:=h.grown;exact⟨hg.os,hg.tape,hg.output,hg.size,fun k hk hn=>hg.block k hk (fun e=>hn (Option.some.inj e))⟩
theorem vt(K:Kd P k κ){A:aM}{w0:World}(h:Goes A w0 F w):Goes (aa (mapA K w.heap.size []) A) w0 F (w.alloc (.map #[] 0)):=by refine(h.alloc (.map #[] 0)).mono fun F' h'=> ?_;obtain⟨G,H,ha,hb,d,e⟩:=h';refine⟨G,H,⟨ha.2, .map [], ?_,⟨by simp,rfl,fun x hx=>by simp at hx,fun kl h=>by simp[has]at h⟩⟩,hb,d,e⟩;exact World.ownsMap_made w P k asIs
theorem zb(h:(mapA K b m).holds w F){t e:TypeId}(ht:P.underlying t=some (.map k e))(hlen:m.length<maxLen)(c:κ)(hc:K.ok c)(p:Nat)(hn:c∉m.map (·.1)): ∃w',(Instr.mapUpdate t (.map (some b)) (K.val c) (pt p)).run P w= .ok () w'∧Goes (mapA K b (m++ [(c,p)])) w F w':=by
 obtain⟨hF,D,hD,hM⟩:=h;have Em:=hD.tidy K.keyed;obtain⟨w',Ai,a8,PX⟩:=hD.store K.keyed ht hlen (K.key c hc) (val:=pt p) (d:= .held (pt p)) (ps:= []) rfl;have XW:has D (K.lk c)=false:=by
  cases hh:has D (K.lk c)with
  |false=>rfl
  |true=>obtain⟨x,hx,ex⟩:=hM.no _ hh;exact absurd (aA.2 ⟨x,hx,(K.inj _ _ ex).symm⟩) hn
 have cg:Maps.size (D.put (K.lk c) (.held (pt p)))=(m++ [(c,p)]).length:=by rw[size_put Em,XW,hM.sz];simp
 refine⟨w',Ai,F,⟨hF,_,cg▸tight a8, ?_,cg,fun x hx=> ?_,fun kl nC=> ?_⟩,(wE PX).mono (fun k _ e=>(hF k).2 e),fun _ h=> .inl h⟩
 ·rw[aH,List.nodup_append];refine⟨hM.nd,by simp,fun u hu v hv e=>hn ?_⟩;simp at hv;rw[<-hv,<-e];exact hu
 ·rcases List.mem_append.1 hx with hx|hx
  ·have cC:K.lk x.1≠K.lk c:=fun e=>hn (aA.2 ⟨x,hx,K.inj _ _ e⟩);obtain⟨h1,h2⟩:=hM.at' x hx;exact⟨by rw[has_put_other cC];exact h1,fun z=>by rw[atKey_put_other cC];exact h2 z⟩
  ·obtain rfl:=cY.1 hx;exact⟨has_put_same Em.isMap (K.lit c) _,fun z=>atKey_put_same Em.isMap (K.lit c) _ z⟩
 ·by_cases e:kl=K.lk c
  ·exact⟨(c,p),by simp,e⟩
  ·rw[has_put_other e]at nC;obtain⟨x,hx,ex⟩:=hM.no kl nC;exact⟨x,List.mem_append_left _ hx,ex⟩
variable [DecidableEq κ]
def rY(m:List (κ×Nat))(c:κ):Value:=match m.find? (fun x=>decide (x.1=c))with|some x=>pt x.2|none=> .pointer none
theorem lO{m:List (κ×Nat)}{c:κ}(h:c∉m.map (·.1)):rY m c= .pointer none:=by unfold rY;rw[List.find?_eq_none.2 (fun x hx e=>h (aA.2 ⟨x,hx,by simpa using e⟩))]
theorem lQ{m:List (κ×Nat)}(hn:(m.map (·.1)).Nodup){x:κ×Nat}(hx:x∈m):rY m x.1=pt x.2:=by
 unfold rY;have hs:(m.find? (fun y=>decide (y.1=x.1))).isSome:=List.find?_isSome.2 ⟨x,hx,by simp⟩;obtain⟨y,hy⟩:=Option.isSome_iff_exists.1 hs;have e:y.1=x.1:=by simpa using List.find?_some hy
 have hm:=dT hy;have:y=x:=by
  have h:=List.pairwise_iff_getElem.1 hn;obtain⟨i,hi,rfl⟩:=List.getElem_of_mem hm;obtain⟨j,hj,rfl⟩:=List.getElem_of_mem hx;rcases Nat.lt_trichotomy i j with h'|h'|h'
  ·exact absurd (by rw[List.getElem_map,List.getElem_map];exact e) (h i j (by simpa using hi) (by simpa using hj) h')
  ·subst h';rfl
  ·exact absurd (by rw[List.getElem_map,List.getElem_map];exact e.symm) (h j i (by simpa using hj) (by simpa using hi) h')
 rw[hy,this]
theorem nN(h:(mapA K b m).holds w F){t e:TypeId}(ht:P.underlying t=some (.map k e))(hz:(zeroValue e).run P w= .ok (.pointer none) w)(c:κ)(hc:K.ok c):(Instr.lookup t (.map (some b)) (K.val c) false).run P w= .ok (rY m c) w:=by
 obtain⟨_,D,hD,hM⟩:=h;obtain⟨v,ps,Ai,hv⟩:=hD.lookup K.keyed ht hz (zd:= .held (.pointer none)) (zp:= []) rfl (K.key c hc);rw[Ai];have e0:=congrArg (fun o=>o.map Prod.fst) hv;simp only[asIs,Option.map_some,Option.some.injEq]at e0;by_cases hm:c∈m.map (·.1)
 ·obtain⟨x,hx,rfl⟩:=aA.1 hm;rw[(hM.at' x hx).2]at e0;cases e0;rw[lQ hM.nd hx]
 ·have hn:has D (K.lk c)=false:=by
   cases hh:has D (K.lk c)with
   |false=>rfl
   |true=>obtain⟨x,hx,ex⟩:=hM.no _ hh;exact absurd (aA.2 ⟨x,hx,(K.inj _ _ ex).symm⟩) hm
  rw[atKey_of_not_has hn]at e0;cases e0;rw[lO hm]
theorem Hy{m:List (κ×Nat)}(hn:(m.map (·.1)).Nodup)(c:κ):(m.filter (fun x=>decide (x.1≠c))).length+(if c∈m.map (·.1)then 1 else 0)=m.length:=by
 induction m with
 |nil=>rfl
 |cons x m ih=>
  rw[List.map_cons,List.nodup_cons]at hn;have Mt:=ih hn.2;rw[List.filter_cons];by_cases e:x.1=c
  ·rw[if_neg (by simpa using e),if_pos (by simp[e])];rw[if_neg (by rw[<-e];exact hn.1)]at Mt;simp only[List.length_cons];omega
  ·rw[if_pos (by simpa using e)];have:c∈(x::m).map (·.1)↔c∈m.map (·.1):=by simp[Ne.symm e]
   simp only[List.length_cons];by_cases h:c∈m.map (·.1)
   ·rw[if_pos (this.2 h)];rw[if_pos h]at Mt;omega
   ·rw[if_neg (fun h'=>h (this.1 h'))];rw[if_neg h]at Mt;omega
theorem za(h:(mapA K b m).holds w F){t e:TypeId}(ht:P.underlying t=some (.map k e))(ty:TypeId)(c:κ)(hc:K.ok c): ∃w',(Builtin.delete_ #[t,k] ty #[.map (some b),K.val c]).run P w= .ok (.tuple #[]) w'∧Goes (mapA K b (m.filter (fun x=>decide (x.1≠c)))) w F w':=by
 obtain⟨hF,D,hD,hM⟩:=h;have Em:=hD.tidy K.keyed;obtain⟨w',Ai,a8,PX⟩:=hD.drop K.keyed ht (K.key c hc) ty;have acB:has D (K.lk c)=decide (c∈m.map (·.1)):=by
  by_cases hm:c∈m.map (·.1)
  ·obtain⟨x,hx,rfl⟩:=aA.1 hm;rw[(hM.at' x hx).1];simp[hm]
  ·cases hh:has D (K.lk c)with
   |false=>simp[hm]
   |true=>obtain⟨x,hx,ex⟩:=hM.no _ hh;exact absurd (aA.2 ⟨x,hx,(K.inj _ _ ex).symm⟩) hm
 have cg:Maps.size (D.del (K.lk c))=(m.filter (fun x=>decide (x.1≠c))).length:=by
  have h1:=size_del (k:=K.lk c) Em;have h2:=Hy hM.nd c;rw[acB,hM.sz]at h1;by_cases hm:c∈m.map (·.1)
  ·rw[if_pos hm]at h2;rw[if_pos (by simpa using hm)]at h1;omega
  ·rw[if_neg hm]at h2;rw[if_neg (by simpa using hm)]at h1;omega
 refine⟨w',Ai,F,⟨hF,_,cg▸tight a8,(List.filter_sublist.map _).nodup hM.nd,cg,fun x hx=> ?_,fun kl nC=> ?_⟩,(wE PX).mono (fun k _ e=>(hF k).2 e),fun _ h=> .inl h⟩
 ·obtain⟨GU,Yg⟩:=aR.1 hx;have cC:K.lk x.1≠K.lk c:=fun e=>(by simpa using Yg:x.1≠c) (K.inj _ _ e);obtain⟨h1,h2⟩:=hM.at' x GU;exact⟨by rw[has_del_other cC];exact h1,fun z=>by rw[atKey_del_other cC];exact h2 z⟩
 ·have cC:kl≠K.lk c:=fun e=>by rw[e,has_del_same]at nC;cases nC
  rw[has_del_other cC]at nC;obtain⟨x,hx,ex⟩:=hM.no kl nC;exact⟨x,aR.2 ⟨hx,by have:x.1≠c:=fun e=>cC (by rw[ex,e]);simpa using this⟩,ex⟩
end
end Pj
namespace aL
open Go.RowKit
theorem ag(w:World)(n:Nat)(a:Addr)(v:Value):(w.drewN n).setCell a v=(w.setCell a v).drewN n:=rfl
theorem ar(w:World)(n:Nat)(o:Obj):(w.drewN n).alloc o=(w.alloc o).drewN n:=rfl
attribute [local go_sem] ag
attribute [local go_sem] ar
theorem Below.ym{B:Nat}{a w:World}(h:Below B a w)(n:Nat):Below B a (w.drewN n):=⟨h.os,h.tape,h.output,h.size,h.block⟩
theorem lX(s:ByteArray)(w:World)(hs:s.size<=1048576):Calls prog 58 #[.string s] w fun e w'=>e= .returned (.string ⟨(line s.data.toList).toArray⟩)∧Below w.heap.size w w':=by
 go_enter func58,ntmps58;go_wp2;go_loopw [4] (fun i wr=> ∃k n:Nat,k<=s.size∧i= .int .i64 k∧wr=(w.alloc (.cells #[.int .i64 (sm s.data.toList k 0), .int .i64 (sm s.data.toList k 1), .int .i64 (sm s.data.toList k 2), .int .i64 (sm s.data.toList k 3)] 3)).drewN n) (fun i _=>s.size-(intOf i).toNat)
 case atStart=>exact⟨0,0,aJ _,rfl,rfl⟩
 case round=>
  obtain⟨k,n,hk,rfl,rfl⟩:=hrel;have b0:=gW s.data.toList k 0;have b1:=gW s.data.toList k 1;have b2:=gW s.data.toList k 2;have b3:=gW s.data.toList k 3;by_cases ay:k<s.size
  ·have rE:(s[k].toNat:Int)<=255:=by have:=s[k].toNat_lt;omega
   have hge:(s.data.toList[k]?.getD 0).toNat=s[k].toNat:=by rw[a7 (by simpa using ay)];rfl
   have hm:k %4=0∨k %4=1∨k %4=2∨k %4=3:=by omega
   have HG:Hid ((s.data.toList[k]?.getD 0).toNat=s[k].toNat):=hge;clear hge;rcases hm with hm|hm|hm|hm
   ·have XT:(k:Int) %4=0:=by omega
    have HK:Hid (k %4=0):=hm;clear hm;go_wp2
    go_region
    go_wp2;go_roundw
    case rel=>refine⟨k+1,n+1,by omega,by go_num, ?_⟩;have e:=HK.out;rw[mP _ _ 0 e,cE _ _ 1 (by omega),cE _ _ 2 (by omega),cE _ _ 3 (by omega),HG.out]
    case measure=>simp[intOf];omega
   ·have XT:(k:Int) %4=1:=by omega
    have HK:Hid (k %4=1):=hm;clear hm;go_wp2
    go_region
    go_wp2;go_roundw
    case rel=>refine⟨k+1,n+1,by omega,by go_num, ?_⟩;have e:=HK.out;rw[mP _ _ 1 e,cE _ _ 0 (by omega),cE _ _ 2 (by omega),cE _ _ 3 (by omega),HG.out]
    case measure=>simp[intOf];omega
   ·have XT:(k:Int) %4=2:=by omega
    have HK:Hid (k %4=2):=hm;clear hm;go_wp2
    go_region
    go_wp2;go_roundw
    case rel=>refine⟨k+1,n+1,by omega,by go_num, ?_⟩;have e:=HK.out;rw[mP _ _ 2 e,cE _ _ 0 (by omega),cE _ _ 1 (by omega),cE _ _ 3 (by omega),HG.out]
    case measure=>simp[intOf];omega
   ·have XT:(k:Int) %4=3:=by omega
    have HK:Hid (k %4=3):=hm;clear hm;go_wp2
    go_region
    go_wp2;go_roundw
    case rel=>refine⟨k+1,n+1,by omega,by go_num, ?_⟩;have e:=HK.out;rw[mP _ _ 3 e,cE _ _ 0 (by omega),cE _ _ 1 (by omega),cE _ _ 2 (by omega),HG.out]
    case measure=>simp[intOf];omega
  ·have HK:Hid (k=s.data.toList.length):=by
    have e:s.data.toList.length=s.size:=by simp
    show k=_;omega
   go_wp2;go_loopw [35,5] (fun i o wr=> ∃j n:Nat,j<=4∧i= .int .i64 j∧o= .string ⟨(acc s.data.toList k j).toArray⟩∧wr=(w.alloc (.cells #[.int .i64 (sm s.data.toList k 0), .int .i64 (sm s.data.toList k 1), .int .i64 (sm s.data.toList k 2), .int .i64 (sm s.data.toList k 3)] 3)).drewN n) (fun i _ _=>4-(intOf i).toNat)
   case atStart=>exact⟨0,n,by omega,rfl,nV (Dd s k),rfl⟩
   case round=>
    obtain⟨j,n,hj,rfl,rfl,rfl⟩:=hrel;have Xs:=WZ s.data.toList k j 1048576 (by simpa using hs) hj;by_cases adN:j<4
    ·have hm:j=0∨j=1∨j=2∨j=3:=by omega
     rcases hm with rfl|rfl|rfl|rfl
     ·go_wp2
      go_quiet (fail)
      go_wp2;go_roundw
      case rel=>exact⟨_,_,by omega,by go_num,nV (tr _ _ _),rfl⟩
      case measure=>simp[intOf]
     ·go_wp2
      go_quiet (fail)
      go_wp2;go_roundw
      case rel=>exact⟨_,_,by omega,by go_num,nV (tr _ _ _),rfl⟩
      case measure=>simp[intOf]
     ·go_wp2
      go_quiet (fail)
      go_wp2;go_roundw
      case rel=>exact⟨_,_,by omega,by go_num,nV (tr _ _ _),rfl⟩
      case measure=>simp[intOf]
     ·go_wp2
      go_quiet (fail)
      go_wp2;go_roundw
      case rel=>exact⟨_,_,by omega,by go_num,nV (tr _ _ _),rfl⟩
      case measure=>simp[intOf]
    ·obtain rfl:j=4:=by omega
     go_wp2;go_ret;refine⟨?_, ?_⟩
     ·exact SR _ _ HK.out
     ·exact Below.ym ((ah _ _).alloc (ae _) _) n
end aL
end Go.Proofs.YtffamlbkmjmipaaGreatDoor
namespace Go.Proofs
open Go.Shelf
def Tryz.lays169_ren:Go.Shelf.Ren:=⟨fun|169=>130|n=>n,fun|70=>189|9=>9|0=>0|72=>191|37=>35|127=>230|3=>3|5=>5|n=>n,fun|n=>n⟩
theorem Tryz.lays169:Go.Proofs.Lays.n169 Tryz.prog Tryz.lays169_ren:={mixed:=by kernel_rfl,f169:=Tryz.func130.trans (congrArg some (by kernel_rfl)),t0:=Tryz.underlying0,a0:=Tryz.isAgg0,z0:=Tryz.sizeOf0,v0:=Tryz.zeroValue0,t3:=Tryz.underlying3,a3:=Tryz.isAgg3,z3:=Tryz.sizeOf3,v3:=Tryz.zeroValue3,t9:=Tryz.underlying9,a9:=Tryz.isAgg9,z9:=Tryz.sizeOf9,v9:=Tryz.zeroValue9,t37:=Tryz.underlying35,a37:=Tryz.isAgg35,z37:=Tryz.sizeOf35,v37:=Tryz.zeroValue35,t70:=Tryz.underlying189,a70:=Tryz.isAgg189,z70:=Tryz.sizeOf189,v70:=Tryz.zeroValue189,t72:=Tryz.underlying191,a72:=Tryz.isAgg191,z72:=Tryz.sizeOf191,v72:=Tryz.zeroValue191,t127:=Tryz.underlying230,a127:=Tryz.isAgg230,z127:=Tryz.sizeOf230,v127:=Tryz.zeroValue230}
theorem Tryz.Builder_Extra_169:Builder.Extra Tryz.prog Tryz.lays169_ren:={sizeBuilder:=by kernel_rfl,liesBuilder:=by kernel_rfl,t5:=Tryz.underlying5,a5:=Tryz.isAgg5,z5:=Tryz.sizeOf5,v5:=Tryz.zeroValue5,infoByte:=by kernel_rfl,cellsByte:=by kernel_rfl,sizeByte:=by kernel_rfl,neB5:=by decide}
open Go.RowKit in
theorem Tryz.Builder_String_any_k(B b:Nat)(l:List UInt8)(w:World)(h:Lib.IsBuilderF 191 5 B b (Lib.byteCells l) w)(hBw:B<=w.heap.size):
  Calls Tryz.prog 130 #[.pointer (some ⟨b,0,none⟩)] w fun e w'=>e= .returned (.string ⟨l.toArray⟩)∧(Lib.IsBuilderF 191 5 B b (Lib.byteCells l) w'∧Below B w w'∧Lib.OthersKept 5 (some b) w w'):=Any.Builder_String_any_k Tryz.lays169 Tryz.Builder_Extra_169 B b l w h hBw
end Go.Proofs
namespace Go.Proofs.YtffamlbkmjmipaaGreatDoor
open _root_.Go.Proofs.Tryz
namespace Sp
open Go.RowKit
set_option linter.unusedVariables false
theorem sizeBuilder:(prog.info? 191).map (·.size)=some 2:=by kernel_rfl
theorem liesBuilder:liesAt prog prog.depth 191 (2/prog.cellsOf 191) 0 191 1=true:=by kernel_rfl
theorem infoByte:(prog.info? 5).map (fun i=>(i.zero,i.size,i.bytes))=some (some (.int .u8 0),1,1):=by kernel_rfl
theorem yh(b:Nat)(w:World)(h0:w.cell? ⟨b,0,none⟩=some (.pointer (some ⟨b,0,none⟩))):Calls prog 168 #[.pointer (some ⟨b,0,none⟩)] w fun e w'=>e= .returned (.tuple #[])∧w'=w:=by obtain⟨j,hj,_⟩:=Option.map_eq_some_iff.1 sizeBuilder;go_enter func168,ntmps168;go_wp2;rw[Lib.run_neq_ptr_same w _ underlying189 hj];go_wp2;go_end0;exact⟨rfl,rfl⟩
theorem wM(b:Nat)(w:World)(h0:w.cell? ⟨b,0,none⟩=some (.pointer none))(oh:w.shape? b=some (191,2))(Zj:w.frozen? ⟨b,0,none⟩=false):Calls prog 168 #[.pointer (some ⟨b,0,none⟩)] w fun e w'=>e= .returned (.tuple #[])∧w'=w.setCell ⟨b,0,none⟩ (.pointer (some ⟨b,0,none⟩)):=by obtain⟨j,hj,hjs⟩:=Option.map_eq_some_iff.1 sizeBuilder;go_enter func168,ntmps168;go_wp2;rw[Lib.run_to_unsafe w ⟨b,0,none⟩ underlying189 underlying263 hj (by rw[hjs];decide) oh (Nat.zero_lt_succ 1)];simp only[Result.andThen];rw[Oper.upon_value];go_wp2;rw[run_callFunc_extern func210 (by kernel_rfl) (by kernel_rfl) (by kernel_rfl) (e:=Extern.AbiNoEscape.same) (by kernel_rfl)];rw[Lib.run_noEscape];simp only[Result.andThen];rw[Oper.upon_value];go_wp2;rw[Lib.run_from_unsafe w ⟨b,0,none⟩ underlying263 underlying189 hj oh liesBuilder];simp only[Result.andThen];rw[Oper.upon_value];go_wp2;go_end0;exact⟨rfl,rfl⟩
theorem Du(B b:Nat)(bs:List Value)(w:World)(h:Lib.IsBuilderF 191 5 B b bs w):Calls prog 168 #[.pointer (some ⟨b,0,none⟩)] w fun e w'=>e= .returned (.tuple #[])∧(Lib.BuilderAtF 191 5 B b (.pointer (some ⟨b,0,none⟩)) bs w'∧Below B w w'∧Lib.OthersKept 5 (some b) w w'):=by
 rcases h with h|h
 ·refine(wM b w h.cell0 h.shape h.frozen0).mono ?_;rintro e w'⟨rfl,rfl⟩;exact⟨rfl,h.used _,(ah B w).setCell (p:=⟨b,0,none⟩) h.1 _,(Lib.OthersKept.refl _ _ w).setCell ⟨b,0,none⟩ rfl _⟩
 ·refine(yh b w h.cell0).mono ?_;rintro e w'⟨rfl,rfl⟩;exact⟨rfl,h,ah B _,Lib.OthersKept.refl _ _ _⟩
theorem fN(B b:Nat)(bs:List Value)(c:Int)(w:World)(h:Lib.IsBuilderF 191 5 B b bs w)(hlen:bs.length+1<=140737488355328)(hBw:B<=w.heap.size):Calls prog 129 #[.pointer (some ⟨b,0,none⟩), .int .u8 c] w fun e w'=>e= .returned .nilIface∧(Lib.BuilderAtF 191 5 B b (.pointer (some ⟨b,0,none⟩)) (bs++ [.int .u8 c]) w'∧Below B w w'∧Lib.OthersKept 5 (some b) w w'):=by
 obtain⟨i0,hi,gI,dN,fS⟩:=info_parts infoByte;go_enter func129,ntmps129;go_wp2_with (go_at_call 168;refine(Du B b bs _ h).mono ?_);rintro e w1⟨rfl,h1,hb1,BO⟩;obtain⟨hB,v,NT,a8,cC⟩:=h1;have c0:w1.cell? ⟨b,0,none⟩=some (.pointer (some ⟨b,0,none⟩)):=by rw[Lib.cell_of_heap NT];rfl
 have c1:w1.cell? ⟨b,1,none⟩=some v:=by rw[Lib.cell_of_heap NT];rfl
 go_wp2_with (at_builtin;refine wpList_append_ownF _ rfl _ _ 35 rfl B 5 i0 (.int .u8 0) 1 1 underlying35 hi gI dN fS rfl (by decide) _ _ _ rfl (a8.alloc _) ⟨w1.heap.size,0,none⟩ 1 1 [.int .u8 c] rfl rfl ?c1 ?c2 ?c3 ?c4 ?c5 ?_)
 case c1=>
  intro j u hj
  match j,hj with
  |0,hj=>simp at hj;subst hj;simp[Addr.add]
 case c2=>intro u hu;simp at hu;subst hu;rfl
 case c3=>unfold maxLen;omega
 case c4=>omega
 case c5=>have:=hb1.size;simp;omega
 intro v' w2 V5 gR _;have ay:b<w1.heap.size:=by
  rcases Nat.lt_or_ge b w1.heap.size with h'|h'
  ·exact h'
  ·simp[Array.getElem?_eq_none h']at NT
 have bN:w2.heap[b]?=some (.cells #[.pointer (some ⟨b,0,none⟩),v] 191 (0,0)):=by rw[gR.block b (by simp;omega) (fun e=>cC e.symm),Lib.alloc_old w1 _ b ay];exact NT
 have d0:w2.cell? ⟨b,0,none⟩=some (.pointer (some ⟨b,0,none⟩)):=by rw[Lib.cell_of_heap bN];rfl
 have d1:w2.cell? ⟨b,1,none⟩=some v:=by rw[Lib.cell_of_heap bN];rfl
 have f1:w2.frozen? ⟨b,1,none⟩=false:=Lib.frozen_of_heap bN 1;obtain⟨g,cap,rfl⟩: ∃g cap,v'= .slice (some ⟨g,0,none⟩) (bs.length+1) cap:=by
  rcases V5.2 with⟨_,h0⟩|⟨g,cap,cur,fz,hv,_⟩
  ·omega
  ·exact⟨g,cap,hv⟩
 go_wp2;go_ret;refine⟨rfl, ?_, ?_,((BO.alloc _).grown gR (Lib.ownsRowF_kind (a8.alloc _))).setCell ⟨b,1,none⟩ rfl _⟩
 ·exact Lib.BuilderAtF.put (T:=191) (e:=5) hB bN (bs':=bs++ [.int .u8 c]) (by simpa using V5) (by decide)
 ·exact((hb1.alloc (by have:=hb1.size;omega) _).grown gR (by have:=hb1.size;simp;omega) (fun k hk=>(a8.lt k hk).1)).setCell (p:=⟨b,1,none⟩) hB _
end Sp
namespace bJ
open Go.RowKit
def fx(by':UInt8)(p:List (List UInt8)×List UInt8)(c:UInt8):List (List UInt8)×List UInt8:=if c=by' then(p.1++ [p.2], [])else(p.1,p.2++ [c])
def mV(by':UInt8)(l:List UInt8):List (List UInt8)×List UInt8:=l.foldl (fx by') ([], [])
def bW(by':UInt8)(l:List UInt8):List (List UInt8):=(mV by' l).1++ [(mV by' l).2]
theorem qF(by':UInt8)(l:List UInt8)(c:UInt8):mV by' (l++ [c])=fx by' (mV by' l) c:=by simp[mV,List.foldl_append]
theorem tK(by':UInt8)(l:List UInt8):(mV by' l).1.length<=l.length∧(mV by' l).2.length<=l.length∧ ∀x∈(mV by' l).1,x.length<=l.length:=by
 rw[<-List.reverse_reverse l];generalize l.reverse=r
 induction r with
 |nil=>simp[mV]
 |cons c r ih=>
  rw[List.reverse_cons,qF];unfold fx;obtain⟨h1,h2,h3⟩:=ih;split
  ·refine⟨by simp at*;omega,by simp,fun x hx=> ?_⟩;rw[List.mem_append]at hx;rcases hx with hx|hx
   ·have:=h3 x hx;simp at*;omega
   ·simp at hx;subst hx;simp at*;omega
  ·refine⟨by simp at*;omega,by simp at*;omega,fun x hx=> ?_⟩;have:=h3 x hx;simp at*;omega
def strs(l:List (List UInt8)):List Value:=l.map fun x=> .string ⟨x.toArray⟩
theorem uu(l:List (List UInt8)):(strs l).length=l.length:=by simp[strs]
theorem mQ(a b:List (List UInt8)):strs (a++b)=strs a++strs b:=by simp[strs]
theorem take_snoc(s:ByteArray)(k:Nat)(h:k<s.size):s.data.toList.take (k+1)=s.data.toList.take k++ [s[k]]:=by rw[fp (by simpa using h)];rfl
theorem nW(s:ByteArray):s.data.toList.take s.size=s.data.toList:=List.take_of_length_le (by simp)
theorem DJ(s:ByteArray)(k:Nat)(h:k<s.size):s.extract k (k+1)=⟨[s[k]].toArray⟩:=by
 apply ByteArray.ext;apply Array.ext';have hk:k<s.data.toList.length:=by simpa using h
 simp;rw[List.drop_eq_getElem_cons hk];rfl
