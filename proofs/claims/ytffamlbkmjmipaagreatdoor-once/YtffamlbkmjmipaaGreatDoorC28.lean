import Derived.Test.YtffamlbkmjmipaaGreatDoorC14
import Derived.Test.YtffamlbkmjmipaaGreatDoorC16
set_option maxHeartbeats 8000000
set_option maxRecDepth 100000
namespace Go.Proofs.YtffamlbkmjmipaaGreatDoor
open _root_.Go.Proofs.Tryz
namespace bG
open Go.RowKit
variable{p:Int->Bool}
theorem Tb(i len a b c d:Nat)(ha:a<256)(r:Int)(n:Nat)(h:(if(a:Int)<128 then some ((a:Int),1)else if 194<=(a:Int)∧(a:Int)<224 then(if i+2<=len∧(decide (128<=(b:Int)) &&decide ((b:Int)<=191))=true then some (64*((a:Int) %32)+(b:Int) %64,2)else none)else if 224<=(a:Int)∧(a:Int)<240 then(if i+3<=len∧(decide (128<=(b:Int)) &&decide ((b:Int)<=191))=true∧(decide (128<=(c:Int)) &&decide ((c:Int)<=191))=true∧ ¬(64*(64*((a:Int) %16)+(b:Int) %64)+(c:Int) %64<2048∨55296<=64*(64*((a:Int) %16)+(b:Int) %64)+(c:Int) %64∧64*(64*((a:Int) %16)+(b:Int) %64)+(c:Int) %64<57344)then some (64*(64*((a:Int) %16)+(b:Int) %64)+(c:Int) %64,3)else none)else none)=some (r,n)):((Lib.decodeN (len-i) a b c d).1:Int)=r∧(Lib.decodeN (len-i) a b c d).2=n∧ ¬((Lib.decodeN (len-i) a b c d).1=65533∧(Lib.decodeN (len-i) a b c d).2=1):=by
 have on: ∀x:Nat,(decide (128<=(x:Int)) &&decide ((x:Int)<=191))=true->x/64=2:=fun x h=>by rw[bm,decide_eq_true_eq,decide_eq_true_eq]at h;omega
 by_cases h1:a<128
 ·rw[if_pos (by omega)]at h;cases h;have e:Lib.decodeN (len-i) a b c d=(a,1):=by unfold Lib.decodeN;rw[if_pos h1]
  rw[e];exact⟨rfl,rfl,fun h=>by have:=h.1;dsimp only at this;omega⟩
 rw[if_neg (by omega)]at h;by_cases h2:194<=(a:Int)∧(a:Int)<224
 ·rw[if_pos h2]at h;split at h
  ·rename_i hc;have hb:=on b hc.2;cases h;have e:Lib.decodeN (len-i) a b c d=(a %32*64+b %64,2):=by unfold Lib.decodeN;rw[if_neg h1,if_pos (by omega),if_pos (by omega)]
   rw[e];exact⟨by simp only[Int.natCast_add,Int.natCast_mul,Int.natCast_emod];omega,rfl,fun h=>by have:=h.2;simp at this⟩
  ·cases h
 ·rw[if_neg h2]at h;by_cases h3:224<=(a:Int)∧(a:Int)<240
  ·rw[if_pos h3]at h;split at h
   ·rename_i hc;have hb:=on b hc.2.1;have VM:=on c hc.2.2.1;have hn:=hc.2.2.2;cases h;have e:Lib.decodeN (len-i) a b c d=(a %16*4096+b %64*64+c %64,3):=by unfold Lib.decodeN;rw[if_neg h1,if_neg (by omega),if_pos (by omega),if_pos (by omega)]
    rw[e];exact⟨by simp only[Int.natCast_add,Int.natCast_mul,Int.natCast_emod];omega,rfl,fun h=>by have:=h.2;simp at this⟩
   ·cases h
  ·rw[if_neg h3]at h;cases h
theorem Jf(l:List UInt8)(i:Nat){c:Int}{n:Nat}(h:gP l i=some (c,n)):((Lib.decodeL (l.drop i)).1:Int)=c∧(Lib.decodeL (l.drop i)).2=n∧ ¬((Lib.decodeL (l.drop i)).1=65533∧(Lib.decodeL (l.drop i)).2=1):=by rw[Lib.decodeL_N,List.length_drop,Lib.getD_dropU,Lib.getD_dropU,Lib.getD_dropU,Lib.getD_dropU,Nat.add_zero];unfold gP wy two' tW at h;rw[kM,kM,kM]at h;exact Tb i l.length _ _ _ _ (l.getD i 0).toNat_lt c n h
theorem Q7(l:List UInt8): ∀(f i:Nat) (xs:List Int),jw l f i=some xs->Lib.validD (l.drop i)=true:=by
 have zt: ∀i,¬i<l.length->Lib.validD (l.drop i)=true:=fun i hl=>by rw[List.drop_eq_nil_of_le (by omega)];simp[Lib.validD,Lib.validGoD]
 intro f
 induction f with
 |zero=>
  intro i xs h;by_cases hl:i<l.length
  ·unfold jw dN at h;rw[if_pos hl]at h;cases h
  ·exact zt i hl
 |succ f ih=>
  intro i xs h;by_cases hl:i<l.length
  ·cases hn:gP l i with
   |none=>unfold jw at h;rw[yl _ _ hl hn]at h;cases h
   |some p=>
    obtain⟨c,n⟩:=p;unfold jw at h;rw[lU _ _ _ _ hl hn]at h;cases hr:dN (gP l) l.length f (i+n)with
    |none=>rw[hr]at h;cases h
    |some ys=>
     have KA:=ih (i+n) ys hr;obtain⟨h1,h2,h3⟩:=Jf l i hn;have cA:l.drop i≠ []:=by intro e;have:=congrArg List.length e;simp at this;omega
     rw[Lib.validD_step _ cA,if_neg h3,List.drop_drop,h2];exact KA
  ·exact zt i hl
theorem H0{most:Nat}{l:List UInt8}(h:Lib.validD l=false):gp p most l=false:=by
 cases hl:lets l with
 |none=>exact mm hl
 |some xs=>have:=Q7 l _ 0 xs hl;rw[List.drop_zero,h]at this;cases this
theorem Got.not{s:ByteArray}{pos:Nat}{xs:List Int}(h:Got p s pos xs)(hl:pos<s.size)(hp:p ((Utf8.decode s pos).1:Int)=false)(most:Nat):gp p most s.data.toList=false:=by
 obtain⟨_,_,_,f,h4,h5⟩:=h;cases hls:lets s.data.toList with
 |none=>exact mm hls
 |some ys=>
  rw[jG hls];rw[hls]at h5;obtain⟨f,rfl⟩: ∃f',f=f'+1:=⟨f-1,by omega⟩;have V1:pos<s.data.toList.length:=by simpa using hl
  unfold jw dN at h5;rw[if_pos V1]at h5;cases hn:gP s.data.toList pos with
  |none=>rw[hn]at h5;cases h5
  |some q=>
   obtain⟨c,n⟩:=q;rw[hn]at h5;dsimp only at h5;obtain⟨h1,_,_⟩:=Jf _ _ hn;rw[Lib.decodeL_drop]at h1;rw[h1]at hp;cases hr:dN (gP s.data.toList) s.data.toList.length f (pos+n)with
   |none=>rw[hr]at h5;cases h5
   |some zs=>rw[hr]at h5;simp only[Option.map_some,Option.some.injEq]at h5;rw[h5];simp[hp]
theorem mM{base:Nat}{cg:World}(L:iP base cg)(g:Nat)(p:Int->Bool)(T:Tests g p)(s:ByteArray)(most:Nat)(w:World)(hs:s.size<=4194304)(hb:Below base cg w):Calls prog 220 #[.string s, .int .i64 most, .func (.func g) #[] #[]] w (fun e w'=>e= .returned (.bool (gp p most s.data.toList))∧Below w.heap.size w w'):=by
 have HV:Hid (Calls prog 241 #[.string s] w fun e w'=>e= .returned (.bool (Lib.validD s.data.toList))∧Below w.heap.size w w'):=L.valid s w hs hb;have eg:=T.enter;have HT:Hid (Tests g p):=T;clear T hb;go_enter func220,ntmps220;go_wp2_with fail;refine HV.out.mono ?_;rintro e w1⟨rfl,bT⟩;clear HV;cases hv:Lib.validD s.data.toList
 ·have HW:Hid (gp p most s.data.toList=false):=H0 hv;clear hv;go_wp2;go_ret;exact⟨cH HW.out.symm,bT⟩
 ·have HG:Hid (Got p s 0 []):=Got.start hv;clear hv;have ja:=bT.size;go_wp2;go_loopw [7] (fun c wr=> ∃(pos:Nat) (xs:List Int),c= .int .i64 xs.length∧Hid (Got p s pos xs)∧xs.length<=pos∧wr.heap[w1.heap.size]?=some (.stringIter s pos)∧Below w.heap.size w wr) (fun _ wr=>s.size-wr.iterPos w1.heap.size)
  case atStart=>exact⟨0, [],rfl,HG,af _,World.iter_heap w1 s 0,bT.alloc ja _⟩
  case round=>
   obtain⟨pos,xs,rfl,Xg,hxp,hit,tC⟩:=hrel;by_cases aN:pos<s.size
   ·have UE: ∀ty,(Instr.next (.pointer (some ⟨w1.heap.size,0,none⟩)) true ty).run prog wr=_:=fun ty=>Lib.run_next_any_at wr w1.heap.size s pos ty hit aN;have hwd:=Lib.width_pos s pos;have nJ:=Lib.rune_le s pos;have VX:=Lib.iterAt_heap wr w1.heap.size s pos (pos+(Utf8.decode s pos).2) hit;have Ka:=Lib.below_iterAt tC (k:=w1.heap.size) ja s (pos+(Utf8.decode s pos).2);have sV:Hid (p ((Utf8.decode s pos).1:Int)=false->gp p most s.data.toList=false):=fun hp=>Xg.out.not aN hp most;have AD:Hid (p ((Utf8.decode s pos).1:Int)=true->Got p s (pos+(Utf8.decode s pos).2) (xs++ [((Utf8.decode s pos).1:Int)])):=fun hp=>Xg.out.step aN hp HT.out.low;obtain⟨W,hWd⟩: ∃W,wr.iterAt w1.heap.size s (pos+(Utf8.decode s pos).2)=W:=⟨_,rfl⟩;rw[hWd]at UE VX Ka;have hip:s.size-W.iterPos w1.heap.size<s.size-wr.iterPos w1.heap.size:=by
     unfold World.iterPos;rw[hit,VX];simp;omega
    generalize(Utf8.decode s pos).1=R at*;generalize(Utf8.decode s pos).2=K at*;have HS:Hid (Calls prog g #[.int .i32 (R:Int)] W fun e w'=>e= .returned (.bool (p R))∧w'=W):=HT.out.says R W nJ;clear HT HG Xg hit tC hWd;cases hp:p (R:Int)
    ·rw[hp]at HS;have HW:Hid (gp p most s.data.toList=false):=sV.out hp;clear hp AD sV;go_wp2_with (go_at_fn g;refine HS.out.mono ?_;rintro e W'⟨rfl,rfl⟩);go_ret;exact⟨cH HW.out.symm,Ka⟩
    ·rw[hp]at HS;have mD:Hid (Got p s (pos+K) (xs++ [(R:Int)])):=AD.out hp;clear hp AD sV;go_wp2_with (go_at_fn g;refine HS.out.mono ?_;rintro e W'⟨rfl,rfl⟩);go_roundw
     case rel=>exact⟨pos+K,xs++ [(R:Int)],by simp,mD,by simp;omega,VX,Ka⟩
     case measure=>exact hip
   ·have UE: ∀ty,(Instr.next (.pointer (some ⟨w1.heap.size,0,none⟩)) true ty).run prog wr=_:=fun ty=>Lib.run_next_end_at wr w1.heap.size s pos ty hit aN;have HL:Hid (gp p most s.data.toList=(decide (1<=xs.length) &&decide (xs.length<=most))):=by
     rw[jG (Xg.out.done aN),Xg.out.1];rfl
    clear Xg HG HT;have hxm:xs.length<=4194304+pos:=by omega
    generalize xs.length=n at*;by_cases h1:(1:Int)<=n<;>by_cases h2:(n:Int)<=most
    all_goals go_wp2;go_ret;exact⟨cH (by rw[HL.out];simp;omega),tC⟩
end bG
namespace Mr
open Go.RowKit aJ Mc
def Cc(s:St)(w:World)(e:Ending)(w':World):Prop:=e= .returned (.agg #[.int .i64 s.now, .int .i64 s.queued, .int .i64 s.ah.length, .int .i64 s.wait.length])∧Below w.heap.size w w'
end Mr
namespace Mr
open Go.RowKit aJ Mc
attribute [local go_sem] aG.ae aG.ag
variable{s:St}{c:Int}{p:Nat}{m:MV}{g:List (Ln×Value)}{w:World}{F:Ft}
def LY(p:Nat)(s:St)(c:Int)(m:MV)(g:List (Ln×Value))(w:World)(F:Ft)(e:Ending)(w':World):Prop:=
 ∃g1 off cap k,∃hk:k<(s.conn c).aq.length,e= .returned (.pointer (some ⟨g1,off+k*4,none⟩))∧((s.conn c).aq[k]'hk).n=c∧k<=(s.conn c).aq.findIdx (·.n==c)∧
  Goes (gD p (s.conn c) {m with cv:= .slice (some ⟨g1,off,none⟩) (s.conn c).aq.length cap} g) w F w'
theorem MZ{k:Nat}(hk:k<s.aq.length)(hq:((s.aq[k]'hk).n==c)=true):s.conn c=s:=by unfold St.conn;rw[if_pos (RT hk hq)]
theorem MX(h:s.aq.length<=s.aq.findIdx (fun x=>x.n==c)):s.conn c={s with aq:=s.aq++ [⟨c, [],false,false⟩]}:=by unfold St.conn;rw[RS h];rfl
theorem R3{w1 w2:World}{G:Ft}{v:Value}{x:Cn}(fI:(gD p s m g).holds w F)(hb:Below w.heap.size w w1)(hG:(Rg m.cv s.aq).holds w1 G)(bE:Goes (Rg v (s.aq++ [x])) w1 G w2):Goes (gD p {s with aq:=s.aq++ [x]} {m with cv:=v} g) w F (w2.setCell ⟨p,10,none⟩ v):=by have h0:Goes (gD p s m g) w F w1:=(Goes.refl fI).below hb;rw[BB]at h0;have h1:=h0.part (kY _ _ _ _ _) hG bE;have h2:=(h1.eq (cD _ _ _)).store 10 v;refine h2.eq ?_;rw[BB,cD];rfl
theorem Vx(fI:(gD p s m g).holds w F): ∃G,(Rg m.cv s.aq).holds w G∧ ¬G p:=by rw[BB]at fI;obtain⟨X,Y,hx,⟨B,_,hb,_,_,ey⟩,d,_⟩:=fI;exact⟨X,hx,fun h=>d p h ((ey p).2 (.inl ((hb.2 p).2 rfl)))⟩
theorem Cz(p:Nat)(c:Int)(s:St)(m:MV)(g:List (Ln×Value))(w:World)(F:Ft)(hr:g.map (·.1)=s.ring)(fI:(gD p s m g).holds w F)(hlen:s.aq.length<=16777216):Calls prog 98 #[.pointer (some ⟨p,0,none⟩), .int .i64 c] w (LY p s c m g w F):=by
 obtain⟨i0,hi,mz,ja,jK⟩:=info_parts Wl;have Xx:=UU hr fI;obtain⟨ao,cap,G0,SI,c10,_,vG⟩:=Vy Xx;obtain⟨G,hG,J4⟩:=Vx fI;rw[SI]at hG;have f10:w.frozen? ⟨p,10,none⟩=false:=Xx.frozen 10;have Kr:=Xx.lt;have HG:=hide hG;have HGP:=hide J4;have HCV:=hide SI;have HO:=hide fI;clear fI hr Xx hG J4 SI;go_enter func98,ntmps98;go_wp2
 go_loop [11] (fun i=> ∃k:Nat,k<=s.aq.length∧i= .int .i64 k∧Hid (k<=s.aq.findIdx (fun x=>x.n==c))) (fun i=>s.aq.length-(intOf i).toNat)
 case atStart=>exact⟨0,bh _,rfl,bh _⟩
 case round=>
  obtain⟨k,hk,rfl,HI⟩:=hrel;by_cases aN:k<s.aq.length
  ·obtain⟨g1,off,rfl⟩:=vG.out (by omega);obtain⟨c0,c1,c2,c3⟩:=Cx HG.out aN;cases hq:((s.aq[k]'aN).n==c)
   ·have U6:Hid (k+1<=s.aq.findIdx (fun x=>x.n==c)):=lQ aN hq HI.out;clear HI;go_wp2
    go_round
    case rel=>exact⟨k+1,by omega,by go_num,U6⟩
    case measure=>simp[intOf];omega
   ·have HX:Hid (LY p s c m g w F (.returned (.pointer (some ⟨g1,off+k*4,none⟩))) w):=by
     have e:=MZ aN hq;refine⟨g1,off,cap,k,by rw[e];exact aN,rfl,by simp only[e];simpa using hq,by rw[e];exact HI.out, ?_⟩;rw[e,<-HCV.out];exact Goes.refl HO.out
    clear HI;go_wp2;go_ret;exact HX.out
  ·have VN:=MX (by have:=HI.out;omega:s.aq.length<=s.aq.findIdx (fun x=>x.n==c));have HCE:=hide VN;obtain rfl:k=s.aq.length:=by omega
   clear VN;go_wp2_with (at_builtin;go_must(refine aT _ rfl _ _ 160 rfl 166 i0 (.agg #[.int .i64 0, .string ⟨#[]⟩, .bool false, .bool false]) 4 32 underlying160 hi mz ja jK rfl (by decide) (F:=G) _ s.aq.length (flat RZ s.aq) rfl (aI HG.out ((au _ _).alloc (af _) _)) ⟨w.heap.size,0,none⟩ 1 1 [.int .i64 c, .string ⟨#[]⟩, .bool false, .bool false] rfl rfl (World.news_of_block (cs:= #[.int .i64 c, .string ⟨#[]⟩, .bool false, .bool false]) (t:=166) (fr:=(0,0)) (heap_alloc_new w _)) (by simp[Value.oneCell']) (by unfold maxLen;omega) (by omega) ?main))
   case main=>
    intro iQ mn w1 bE;have hpz:p<(w.alloc (.cells #[.int .i64 c, .string ⟨#[]⟩, .bool false, .bool false] 166)).heap.size:=by simp;omega
    have k10:w1.cell? ⟨p,10,none⟩=some (.slice ao s.aq.length cap):=(bE.only.cell (p:=⟨p,10,none⟩) hpz HGP.out).trans ((((au w.heap.size w).alloc (af _) _).cell (p:=⟨p,10,none⟩) Kr).trans c10);have kf:w1.frozen? ⟨p,10,none⟩=false:=(bE.only.frozen (p:=⟨p,10,none⟩) hpz HGP.out).trans ((((au w.heap.size w).alloc (af _) _).frozen (p:=⟨p,10,none⟩) Kr).trans f10);obtain⟨F1,bU⟩:=bE.facts;obtain⟨_,_,he1,hcp,Y7⟩:=cE bU;cases he1;obtain⟨g1,off,rfl⟩:=Y7 (by omega);have HX:Hid (∀n,LY p s c m g w F (.returned (.pointer (some ⟨g1,off+s.aq.length*4,none⟩))) ((w1.setCell ⟨p,10,none⟩ (.slice (some ⟨g1,off,none⟩) (s.aq.length+1) mn)).drewN n)):=fun n=>by
     have e:=HCE.out;have hl:(s.conn c).aq.length=s.aq.length+1:=by rw[e];simp
     refine⟨g1,off,mn,s.aq.length,by omega,rfl,by simp only[e];simp, ?_, ?_⟩
     ·rw[e];show s.aq.length<=(s.aq++ [_]).findIdx _;rw[List.findIdx_append];split
      ·rename_i h;have:=HI.out;omega
      ·omega
     ·rw[hl];have h3:Goes (gD p {s with aq:=s.aq++ [⟨c, [],false,false⟩]} {m with cv:= .slice (some ⟨g1,off,none⟩) (s.aq.length+1) mn} g) w F (w1.setCell ⟨p,10,none⟩ (.slice (some ⟨g1,off,none⟩) (s.aq.length+1) mn)):=
       R3 (w1:=w.alloc (.cells #[.int .i64 c, .string ⟨#[]⟩, .bool false, .bool false] 166)) (G:=G) HO.out ((au _ _).alloc (af _) _) (by rw[HCV.out];exact aI HG.out ((au _ _).alloc (af _) _)) (by unfold Rg;rw[nC,aH];exact bE)
      rw[<-e]at h3;exact h3.drewN n
    have cn:(w1.setCell ⟨p,10,none⟩ (.slice (some ⟨g1,off,none⟩) (s.aq.length+1) mn)).cell? ⟨p,10,none⟩=some (.slice (some ⟨g1,off,none⟩) (s.aq.length+1) mn):=World.cell?_setCell_same _ _ _ k10;clear bE bU Y7 HCE HI;go_wp2
    go_quiet (fail)
    go_wp2;go_ret;exact HX.out _
