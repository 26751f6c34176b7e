import Derived.Test.YtffamlbkmjmipaaGreatDoorC14
import Derived.Test.YtffamlbkmjmipaaGreatDoorC16
set_option maxHeartbeats 8000000
set_option maxRecDepth 100000
namespace Go.Proofs.YtffamlbkmjmipaaGreatDoor
open _root_.Go.Proofs.Tryz
namespace bA
open Go.RowKit
variable{p:Int->Bool}
theorem NC(i len a b c d:Nat)(ha:a<256)(r:Int)(n:Nat)(h:(if(a:Int)<128 then some ((a:Int),1)else if 194<=(a:Int)∧(a:Int)<224 then(if i+2<=len∧(decide (128<=(b:Int)) &&decide ((b:Int)<=191))=true then some (64*((a:Int) %32)+(b:Int) %64,2)else none)else if 224<=(a:Int)∧(a:Int)<240 then(if i+3<=len∧(decide (128<=(b:Int)) &&decide ((b:Int)<=191))=true∧(decide (128<=(c:Int)) &&decide ((c:Int)<=191))=true∧ ¬(64*(64*((a:Int) %16)+(b:Int) %64)+(c:Int) %64<2048∨55296<=64*(64*((a:Int) %16)+(b:Int) %64)+(c:Int) %64∧64*(64*((a:Int) %16)+(b:Int) %64)+(c:Int) %64<57344)then some (64*(64*((a:Int) %16)+(b:Int) %64)+(c:Int) %64,3)else none)else none)=some (r,n)):((Lib.decodeN (len-i) a b c d).1:Int)=r∧(Lib.decodeN (len-i) a b c d).2=n∧ ¬((Lib.decodeN (len-i) a b c d).1=65533∧(Lib.decodeN (len-i) a b c d).2=1):=by
 have on: ∀x:Nat,(decide (128<=(x:Int)) &&decide ((x:Int)<=191))=true->x/64=2:=fun x h=>by rw[a8,decide_eq_true_eq,decide_eq_true_eq]at h;omega
 by_cases h1:a<128
 ·rw[if_pos (by omega)]at h;cases h;have e:Lib.decodeN (len-i) a b c d=(a,1):=by unfold Lib.decodeN;rw[if_pos h1]
  rw[e];exact⟨rfl,rfl,fun h=>by have:=h.1;dsimp only at this;omega⟩
 rw[if_neg (by omega)]at h;by_cases h2:194<=(a:Int)∧(a:Int)<224
 ·rw[if_pos h2]at h;split at h
  ·rename_i hc;have hb:=on b hc.2;cases h;have e:Lib.decodeN (len-i) a b c d=(a %32*64+b %64,2):=by unfold Lib.decodeN;rw[if_neg h1,if_pos (by omega),if_pos (by omega)]
   rw[e];exact⟨by simp only[Int.natCast_add,Int.natCast_mul,Int.natCast_emod];omega,rfl,fun h=>by have:=h.2;simp at this⟩
  ·cases h
 ·rw[if_neg h2]at h;by_cases h3:224<=(a:Int)∧(a:Int)<240
  ·rw[if_pos h3]at h;split at h
   ·rename_i hc;have hb:=on b hc.2.1;have Qk:=on c hc.2.2.1;have hn:=hc.2.2.2;cases h;have e:Lib.decodeN (len-i) a b c d=(a %16*4096+b %64*64+c %64,3):=by unfold Lib.decodeN;rw[if_neg h1,if_neg (by omega),if_pos (by omega),if_pos (by omega)]
    rw[e];exact⟨by simp only[Int.natCast_add,Int.natCast_mul,Int.natCast_emod];omega,rfl,fun h=>by have:=h.2;simp at this⟩
   ·cases h
  ·rw[if_neg h3]at h;cases h
theorem Eo(l:List UInt8)(i:Nat){c:Int}{n:Nat}(h:gz l i=some (c,n)):((Lib.decodeL (l.drop i)).1:Int)=c∧(Lib.decodeL (l.drop i)).2=n∧ ¬((Lib.decodeL (l.drop i)).1=65533∧(Lib.decodeL (l.drop i)).2=1):=by rw[Lib.decodeL_N,List.length_drop,Lib.getD_dropU,Lib.getD_dropU,Lib.getD_dropU,Lib.getD_dropU,Nat.add_zero];unfold gz tq two' qK at h;rw[jP,jP,jP]at h;exact NC i l.length _ _ _ _ (l.getD i 0).toNat_lt c n h
theorem LD(l:List UInt8): ∀(f i:Nat) (xs:List Int),iW l f i=some xs->Lib.validD (l.drop i)=true:=by
 have vh: ∀i,¬i<l.length->Lib.validD (l.drop i)=true:=fun i hl=>by rw[List.drop_eq_nil_of_le (by omega)];simp[Lib.validD,Lib.validGoD]
 intro f
 induction f with
 |zero=>
  intro i xs h;by_cases hl:i<l.length
  ·unfold iW dJ at h;rw[if_pos hl]at h;cases h
  ·exact vh i hl
 |succ f ih=>
  intro i xs h;by_cases hl:i<l.length
  ·cases hn:gz l i with
   |none=>unfold iW at h;rw[tU _ _ hl hn]at h;cases h
   |some p=>
    obtain⟨c,n⟩:=p;unfold iW at h;rw[kF _ _ _ _ hl hn]at h;cases hr:dJ (gz l) l.length f (i+n)with
    |none=>rw[hr]at h;cases h
    |some ys=>
     have FE:=ih (i+n) ys hr;obtain⟨h1,h2,h3⟩:=Eo l i hn;have cz:l.drop i≠ []:=by intro e;have:=congrArg List.length e;simp at this;omega
     rw[Lib.validD_step _ cz,if_neg h3,List.drop_drop,h2];exact FE
  ·exact vh i hl
theorem Dj{most:Nat}{l:List UInt8}(h:Lib.validD l=false):fL p most l=false:=by
 cases hl:lets l with
 |none=>exact nR hl
 |some xs=>have:=LD l _ 0 xs hl;rw[List.drop_zero,h]at this;cases this
theorem Got.not{s:ByteArray}{pos:Nat}{xs:List Int}(h:Got p s pos xs)(hl:pos<s.size)(hp:p ((Utf8.decode s pos).1:Int)=false)(most:Nat):fL p most s.data.toList=false:=by
 obtain⟨_,_,_,f,h4,h5⟩:=h;cases Xr:lets s.data.toList with
 |none=>exact nR Xr
 |some ys=>
  rw[kM Xr];rw[Xr]at h5;obtain⟨f,rfl⟩: ∃f',f=f'+1:=⟨f-1,by omega⟩;have Qz:pos<s.data.toList.length:=by simpa using hl
  unfold iW dJ at h5;rw[if_pos Qz]at h5;cases hn:gz s.data.toList pos with
  |none=>rw[hn]at h5;cases h5
  |some q=>
   obtain⟨c,n⟩:=q;rw[hn]at h5;dsimp only at h5;obtain⟨h1,_,_⟩:=Eo _ _ hn;rw[Lib.decodeL_drop]at h1;rw[h1]at hp;cases hr:dJ (gz s.data.toList) s.data.toList.length f (pos+n)with
   |none=>rw[hr]at h5;cases h5
   |some zs=>rw[hr]at h5;simp only[Option.map_some,Option.some.injEq]at h5;rw[h5];simp[hp]
theorem k9{base:Nat}{bL:World}(L:ig base bL)(g:Nat)(p:Int->Bool)(T:Tests g p)(s:ByteArray)(most:Nat)(w:World)(hs:s.size<=4194304)(hb:Below base bL w):Calls prog 220 #[.string s, .int .i64 most, .func (.func g) #[] #[]] w (fun e w'=>e= .returned (.bool (fL p most s.data.toList))∧Below w.heap.size w w'):=by
 have HV:Hid (Calls prog 241 #[.string s] w fun e w'=>e= .returned (.bool (Lib.validD s.data.toList))∧Below w.heap.size w w'):=L.valid s w hs hb;have eg:=T.enter;have HT:Hid (Tests g p):=T;clear T hb;go_enter func220,ntmps220;go_wp2_with fail;refine HV.out.mono ?_;rintro e w1⟨rfl,bP⟩;clear HV;cases hv:Lib.validD s.data.toList
 ·have HW:Hid (fL p most s.data.toList=false):=Dj hv;clear hv;go_wp2;go_ret;exact⟨cZ HW.out.symm,bP⟩
 ·have HG:Hid (Got p s 0 []):=Got.start hv;clear hv;have j0:=bP.size;go_wp2;go_loopw [7] (fun c wr=> ∃(pos:Nat) (xs:List Int),c= .int .i64 xs.length∧Hid (Got p s pos xs)∧xs.length<=pos∧wr.heap[w1.heap.size]?=some (.stringIter s pos)∧Below w.heap.size w wr) (fun _ wr=>s.size-wr.iterPos w1.heap.size)
  case atStart=>exact⟨0, [],rfl,HG,af _,World.iter_heap w1 s 0,bP.alloc j0 _⟩
  case round=>
   obtain⟨pos,xs,rfl,Ru,hxp,hit,tB⟩:=hrel;by_cases aQ:pos<s.size
   ·have Pk: ∀ty,(Instr.next (.pointer (some ⟨w1.heap.size,0,none⟩)) true ty).run prog wr=_:=fun ty=>Lib.run_next_any_at wr w1.heap.size s pos ty hit aQ;have hwd:=Lib.width_pos s pos;have jH:=Lib.rune_le s pos;have Qv:=Lib.iterAt_heap wr w1.heap.size s pos (pos+(Utf8.decode s pos).2) hit;have Fh:=Lib.below_iterAt tB (k:=w1.heap.size) j0 s (pos+(Utf8.decode s pos).2);have pJ:Hid (p ((Utf8.decode s pos).1:Int)=false->fL p most s.data.toList=false):=fun hp=>Ru.out.not aQ hp most;have mV:Hid (p ((Utf8.decode s pos).1:Int)=true->Got p s (pos+(Utf8.decode s pos).2) (xs++ [((Utf8.decode s pos).1:Int)])):=fun hp=>Ru.out.step aQ hp HT.out.low;obtain⟨W,ZG⟩: ∃W,wr.iterAt w1.heap.size s (pos+(Utf8.decode s pos).2)=W:=⟨_,rfl⟩;rw[ZG]at Pk Qv Fh;have hip:s.size-W.iterPos w1.heap.size<s.size-wr.iterPos w1.heap.size:=by
     unfold World.iterPos;rw[hit,Qv];simp;omega
    generalize(Utf8.decode s pos).1=R at*;generalize(Utf8.decode s pos).2=K at*;have HS:Hid (Calls prog g #[.int .i32 (R:Int)] W fun e w'=>e= .returned (.bool (p R))∧w'=W):=HT.out.says R W jH;clear HT HG Ru hit tB ZG;cases hp:p (R:Int)
    ·rw[hp]at HS;have HW:Hid (fL p most s.data.toList=false):=pJ.out hp;clear hp mV pJ;go_wp2_with (go_at_fn g;refine HS.out.mono ?_;rintro e W'⟨rfl,rfl⟩);go_ret;exact⟨cZ HW.out.symm,Fh⟩
    ·rw[hp]at HS;have nS:Hid (Got p s (pos+K) (xs++ [(R:Int)])):=mV.out hp;clear hp mV pJ;go_wp2_with (go_at_fn g;refine HS.out.mono ?_;rintro e W'⟨rfl,rfl⟩);go_roundw
     case rel=>exact⟨pos+K,xs++ [(R:Int)],by simp,nS,by simp;omega,Qv,Fh⟩
     case measure=>exact hip
   ·have Pk: ∀ty,(Instr.next (.pointer (some ⟨w1.heap.size,0,none⟩)) true ty).run prog wr=_:=fun ty=>Lib.run_next_end_at wr w1.heap.size s pos ty hit aQ;have HL:Hid (fL p most s.data.toList=(decide (1<=xs.length) &&decide (xs.length<=most))):=by
     rw[kM (Ru.out.done aQ),Ru.out.1];rfl
    clear Ru HG HT;have hxm:xs.length<=4194304+pos:=by omega
    generalize xs.length=n at*;by_cases h1:(1:Int)<=n<;>by_cases h2:(n:Int)<=most
    all_goals go_wp2;go_ret;exact⟨cZ (by rw[HL.out];simp;omega),tB⟩
end bA
namespace Mr
open Go.RowKit aD Mc
def yQ(s:St)(w:World)(e:Ending)(w':World):Prop:=e= .returned (.agg #[.int .i64 s.now, .int .i64 s.queued, .int .i64 s.ag.length, .int .i64 s.wait.length])∧Below w.heap.size w w'
end Mr
namespace Mr
open Go.RowKit aD Mc
attribute [local go_sem] aP.ae aP.ah
variable{s:St}{c:Int}{p:Nat}{m:MV}{g:List (Ln×Value)}{w:World}{F:Ft}
def Hn(p:Nat)(s:St)(c:Int)(m:MV)(g:List (Ln×Value))(w:World)(F:Ft)(e:Ending)(w':World):Prop:=
 ∃g1 off cap k,∃hk:k<(s.conn c).ak.length,e= .returned (.pointer (some ⟨g1,off+k*4,none⟩))∧((s.conn c).ak[k]'hk).n=c∧k<=(s.conn c).ak.findIdx (·.n==c)∧
  Goes (fS p (s.conn c) {m with cv:= .slice (some ⟨g1,off,none⟩) (s.conn c).ak.length cap} g) w F w'
theorem IP{k:Nat}(hk:k<s.ak.length)(hq:((s.ak[k]'hk).n==c)=true):s.conn c=s:=by unfold St.conn;rw[if_pos (Ms hk hq)]
theorem IL(h:s.ak.length<=s.ak.findIdx (fun x=>x.n==c)):s.conn c={s with ak:=s.ak++ [⟨c, [],false,false⟩]}:=by unfold St.conn;rw[Mq h];rfl
theorem Mz{w1 w2:World}{G:Ft}{v:Value}{x:Cn}(eQ:(fS p s m g).holds w F)(hb:Below w.heap.size w w1)(hG:(LO m.cv s.ak).holds w1 G)(bz:Goes (LO v (s.ak++ [x])) w1 G w2):Goes (fS p {s with ak:=s.ak++ [x]} {m with cv:=v} g) w F (w2.setCell ⟨p,10,none⟩ v):=by have h0:Goes (fS p s m g) w F w1:=(Goes.refl eQ).below hb;rw[xW]at h0;have h1:=h0.part (pB _ _ _ _ _) hG bz;have h2:=(h1.eq (cA _ _ _)).store 10 v;refine h2.eq ?_;rw[xW,cA];rfl
theorem P7(eQ:(fS p s m g).holds w F): ∃G,(LO m.cv s.ak).holds w G∧ ¬G p:=by rw[xW]at eQ;obtain⟨X,Y,hx,⟨B,_,hb,_,_,ey⟩,d,_⟩:=eQ;exact⟨X,hx,fun h=>d p h ((ey p).2 (.inl ((hb.2 p).2 rfl)))⟩
theorem om(p:Nat)(c:Int)(s:St)(m:MV)(g:List (Ln×Value))(w:World)(F:Ft)(hr:g.map (·.1)=s.ring)(eQ:(fS p s m g).holds w F)(hlen:s.ak.length<=16777216):Calls prog 98 #[.pointer (some ⟨p,0,none⟩), .int .i64 c] w (Hn p s c m g w F):=by
 obtain⟨i0,hi,nV,j0,kC⟩:=info_parts QL;have RU:=PD hr eQ;obtain⟨ao,cap,G0,Jw,c10,_,yF⟩:=P8 RU;obtain⟨G,hG,Fb⟩:=P7 eQ;rw[Jw]at hG;have f10:w.frozen? ⟨p,10,none⟩=false:=RU.frozen 10;have Fy:=RU.lt;have HG:=hide hG;have YI:=hide Fb;have YC:=hide Jw;have HO:=hide eQ;clear eQ hr RU hG Fb Jw;go_enter func98,ntmps98;go_wp2
 go_loop [11] (fun i=> ∃k:Nat,k<=s.ak.length∧i= .int .i64 k∧Hid (k<=s.ak.findIdx (fun x=>x.n==c))) (fun i=>s.ak.length-(intOf i).toNat)
 case atStart=>exact⟨0,bk _,rfl,bk _⟩
 case round=>
  obtain⟨k,hk,rfl,HI⟩:=hrel;by_cases aQ:k<s.ak.length
  ·obtain⟨g1,off,rfl⟩:=yF.out (by omega);obtain⟨c0,c1,c2,c3⟩:=zj HG.out aQ;cases hq:((s.ak[k]'aQ).n==c)
   ·have PS:Hid (k+1<=s.ak.findIdx (fun x=>x.n==c)):=kx aQ hq HI.out;clear HI;go_wp2
    go_round
    case rel=>exact⟨k+1,by omega,by go_num,PS⟩
    case measure=>simp[intOf];omega
   ·have HX:Hid (Hn p s c m g w F (.returned (.pointer (some ⟨g1,off+k*4,none⟩))) w):=by
     have e:=IP aQ hq;refine⟨g1,off,cap,k,by rw[e];exact aQ,rfl,by simp only[e];simpa using hq,by rw[e];exact HI.out, ?_⟩;rw[e,<-YC.out];exact Goes.refl HO.out
    clear HI;go_wp2;go_ret;exact HX.out
  ·have Ql:=IL (by have:=HI.out;omega:s.ak.length<=s.ak.findIdx (fun x=>x.n==c));have YA:=hide Ql;obtain rfl:k=s.ak.length:=by omega
   clear Ql;go_wp2_with (at_builtin;go_must(refine bh _ rfl _ _ 160 rfl 166 i0 (.agg #[.int .i64 0, .string ⟨#[]⟩, .bool false, .bool false]) 4 32 underlying160 hi nV j0 kC rfl (by decide) (F:=G) _ s.ak.length (flat My s.ak) rfl (aF HG.out ((ar _ _).alloc (af _) _)) ⟨w.heap.size,0,none⟩ 1 1 [.int .i64 c, .string ⟨#[]⟩, .bool false, .bool false] rfl rfl (World.news_of_block (cs:= #[.int .i64 c, .string ⟨#[]⟩, .bool false, .bool false]) (t:=166) (fr:=(0,0)) (heap_alloc_new w _)) (by simp[Value.oneCell']) (by unfold maxLen;omega) (by omega) ?main))
   case main=>
    intro gp jo w1 bz;have hpz:p<(w.alloc (.cells #[.int .i64 c, .string ⟨#[]⟩, .bool false, .bool false] 166)).heap.size:=by simp;omega
    have k10:w1.cell? ⟨p,10,none⟩=some (.slice ao s.ak.length cap):=(bz.only.cell (p:=⟨p,10,none⟩) hpz YI.out).trans ((((ar w.heap.size w).alloc (af _) _).cell (p:=⟨p,10,none⟩) Fy).trans c10);have kf:w1.frozen? ⟨p,10,none⟩=false:=(bz.only.frozen (p:=⟨p,10,none⟩) hpz YI.out).trans ((((ar w.heap.size w).alloc (af _) _).frozen (p:=⟨p,10,none⟩) Fy).trans f10);obtain⟨F1,bU⟩:=bz.facts;obtain⟨_,_,Nf,Xa,Tl⟩:=cE bU;cases Nf;obtain⟨g1,off,rfl⟩:=Tl (by omega);have HX:Hid (∀n,Hn p s c m g w F (.returned (.pointer (some ⟨g1,off+s.ak.length*4,none⟩))) ((w1.setCell ⟨p,10,none⟩ (.slice (some ⟨g1,off,none⟩) (s.ak.length+1) jo)).drewN n)):=fun n=>by
     have e:=YA.out;have hl:(s.conn c).ak.length=s.ak.length+1:=by rw[e];simp
     refine⟨g1,off,jo,s.ak.length,by omega,rfl,by simp only[e];simp, ?_, ?_⟩
     ·rw[e];show s.ak.length<=(s.ak++ [_]).findIdx _;rw[List.findIdx_append];split
      ·rename_i h;have:=HI.out;omega
      ·omega
     ·rw[hl];have h3:Goes (fS p {s with ak:=s.ak++ [⟨c, [],false,false⟩]} {m with cv:= .slice (some ⟨g1,off,none⟩) (s.ak.length+1) jo} g) w F (w1.setCell ⟨p,10,none⟩ (.slice (some ⟨g1,off,none⟩) (s.ak.length+1) jo)):=
       Mz (w1:=w.alloc (.cells #[.int .i64 c, .string ⟨#[]⟩, .bool false, .bool false] 166)) (G:=G) HO.out ((ar _ _).alloc (af _) _) (by rw[YC.out];exact aF HG.out ((ar _ _).alloc (af _) _)) (by unfold LO;rw[jU,aC];exact bz)
      rw[<-e]at h3;exact h3.drewN n
    have cn:(w1.setCell ⟨p,10,none⟩ (.slice (some ⟨g1,off,none⟩) (s.ak.length+1) jo)).cell? ⟨p,10,none⟩=some (.slice (some ⟨g1,off,none⟩) (s.ak.length+1) jo):=World.cell?_setCell_same _ _ _ k10;clear bz bU Tl YA HI;go_wp2
    go_quiet (fail)
    go_wp2;go_ret;exact HX.out _
