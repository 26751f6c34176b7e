import Derived.Test.YtffamlbkmjmipaaGreatDoorC34
set_option maxHeartbeats 8000000
set_option maxRecDepth 100000
namespace Go.Proofs.YtffamlbkmjmipaaGreatDoor
open _root_.Go.Proofs.Tryz
namespace Mc
open bJ
structure Skin where
 o:List (Int×Bs)
 f:Cn->Cn
 n: ∀x,(f x).n=x.n
 drains: ∀x,(f x).drains=x.drains
 gone: ∀x,(f x).gone=x.gone
 setG: ∀x,f {x with gone:=true}={f x with gone:=true}
 setD: ∀x,f {x with drains:=true}={f x with drains:=true}
namespace St
variable{s:St}(k:Skin)
end St
end Mc
namespace KpQ
open Go.RowKit aM Mc Mr Lw bJ
section
variable{base:Nat}{dz:World}
theorem keepA_sep(P:uO base dz)(wp:Nat)(s:St)(R:aM){w w1:World}{F:Ft}(h:Goes (aa (keepA P wp s) R) w F w1): ∃x,w1.cell? ⟨wp,0,none⟩=some (.pointer (some ⟨x,0,none⟩))∧Goes (aa (P.A x s) (aa (blk wp (.cells #[.pointer (some ⟨x,0,none⟩)] 42 (0,0))) R)) w F w1:=by obtain⟨F1,⟨G,H,⟨x,hx⟩,hH,d,e⟩,o,n⟩:=h;refine⟨x,bg (dC hx).1, ?_⟩;have h1:(aa (aa (blk wp (.cells #[.pointer (some ⟨x,0,none⟩)] 42 (0,0))) (P.A x s)) R).holds w1 F1:=⟨G,H,hx,hH,d,e⟩;exact(show Goes _ w F w1 from⟨F1,h1,o,n⟩).eq (by ac_rfl)
theorem say_beside(P:uO base dz)(wp:Nat)(c:Int)(hc:I64 c)(t:ByteArray)(s:St){n:Nat}(hv:Mc.Good n s)(ht:t.size<=1048576)(hn:n+(bW 10 (aL.line t.data.toList++ [10])).length<=1299999)(R:aM){w w1:World}{F:Ft}(hbs:base<=w.heap.size)(ho:Below base dz w)(hF: ∀q,F q->base<=q)(bK:Goes (aa (keepA P wp s) R) w F w1):Calls prog 23 #[.pointer (some ⟨wp,0,none⟩), .int .i64 c, .string t] w1 fun e w2=> ∃v,e= .returned v∧Goes (aa (iB v (tell s c t.data.toList).out) (aa (keepA P wp (tell s c t.data.toList).told) R)) w F w2:=by have o1:=bK.only;refine mB (C:=fun e wa G wb=>SayP P wp (tell s c t.data.toList) wa G e wb) bK (fun G hG=>mL P wp c t hc s hv ht hn w1 G (aw hbs o1.size) (ho.trans (o1.toBelow hF hbs)) hG) ?_;rintro e w2 G N3⟨v,rfl,hg⟩;exact⟨v,rfl,(N3 _ hg).eq (by ac_rfl)⟩
end
def knwEvs:List EvQ:= [⟨.tell 1 [115,117,98,32,49,32,97,32,112], [(1, [97,99,99,32,49])]⟩,
 ⟨.tell 1 [115,117,98,32,49,32,98,32,112], [(1, [114,101,106,32,49,32,100,117,112])]⟩,
 ⟨.tell 2 [115,117,98,32,50,32,97,32,113], [(2, [97,99,99,32,50])]⟩,
 ⟨.tell 1 [115,117,98,32,51,32,97,32,114], [(1, [114,101,106,32,51,32,102,117,108,108])]⟩,
 ⟨.tell 1 [115,117,98,32,51,32,98,32,114], [(1, [97,99,99,32,51])]⟩,
 ⟨.tell 2 [99,97,110,32,49], [(2, [110,111,110,101,32,49])]⟩,
 ⟨.tell 5 [112,117,108,108], [(5, [114,117,110,32,49,32,49,32,97,32,112])]⟩,
 ⟨.tell 5 [112,117,108,108], [(5, [114,117,110,32,51,32,49,32,98,32,114])]⟩,
 ⟨.tell 5 [112,117,108,108], []⟩,
 ⟨.tell 6 [112,117,108,108], []⟩,
 ⟨.tell 6 [100,111,110,101,32,49,32,49,32,118], []⟩,
 ⟨.tell 5 [100,111,110,101,32,49,32,50,32,118], []⟩,
 ⟨.tell 5 [102,97,105,108,32,49,32,49], [(5, [114,117,110,32,49,32,50,32,97,32,112])]⟩,
 ⟨.tell 5 [102,97,105,108,32,49,32,50], [(1, [101,114,114,32,49]),(6, [114,117,110,32,50,32,49,32,97,32,113])]⟩,
 ⟨.tick, []⟩,
 ⟨.tick, []⟩,
 ⟨.tell 5 [112,117,108,108], []⟩,
 ⟨.tick, [(5, [115,116,111,112,32,51,32,49]),(6, [115,116,111,112,32,50,32,49]),(5, [114,117,110,32,51,32,50,32,98,32,114])]⟩]
def knwEv(j:Nat):EvQ:=(knwEvs[j]?).getD ⟨.none, []⟩
def knwCfg:uF:=⟨3,1,1,2,2⟩
theorem knw_all:wayB knwCfg 18 knwEv=true:=by decide+kernel
theorem knw_ok:Way knwCfg 18 knwEv:=way_of knw_all (by omega)
def tabA(b:Nat):List Obj->aM
 | []=>emp
 |o::l=>aa (blk b o) (tabA (b+1) l)
theorem tab_at: ∀(l:List Obj) (b:Nat) {w:World} {F:Ft},(tabA b l).holds w F-> ∀i (hi:i<l.length),w.heap[b+i]?=some (l[i]'hi)
 | [],_,_,_,_,i,hi=>by simp at hi
 |o::l,b,w,F,h,i,hi=>by
  obtain⟨G,H,h1,h2,d,e⟩:=h;cases i with
  |zero=>exact h1.1
  |succ i=>have:=tab_at l (b+1) h2 i (by simpa using hi);rw[show b+(i+1)=b+1+i by omega];exact this
theorem goes_tab{A:aM}: ∀(l:List Obj) {w w1:World} {F:Ft},Goes A w F w1->Goes (aa A (tabA w1.heap.size l)) w F (l.foldl World.alloc w1)
 | [],_,_,_,h=>by show Goes (aa A emp) _ _ _;rw[mO];exact h
 |o::l,w,w1,F,h=>by have h2:=goes_tab l (h.alloc o);rw[World.size_alloc]at h2;exact h2.eq (show aa (aa (blk w1.heap.size o) A) (tabA (w1.heap.size+1) l)=aa A (aa (blk w1.heap.size o) (tabA (w1.heap.size+1) l))by ac_rfl)
theorem row_none(e:TypeId)(z:Nat)(w:World):(rowA e z (.slice none 0 0) 0 []).holds w (fun _=>False):=⟨by simp, .inl ⟨rfl,rfl,fun _ h=>h⟩⟩
def knVals(s0:Nat):Array Value:= #[
 .int .i64 1, .string ⟨#[115,117,98,32,49,32,97,32,112]⟩, .slice (some ⟨s0,0,none⟩) 1 1, .slice (some ⟨s0+1,0,none⟩) 1 1,
 .int .i64 1, .string ⟨#[115,117,98,32,49,32,98,32,112]⟩, .slice (some ⟨s0+2,0,none⟩) 1 1, .slice (some ⟨s0+3,0,none⟩) 1 1,
 .int .i64 2, .string ⟨#[115,117,98,32,50,32,97,32,113]⟩, .slice (some ⟨s0+4,0,none⟩) 1 1, .slice (some ⟨s0+5,0,none⟩) 1 1,
 .int .i64 1, .string ⟨#[115,117,98,32,51,32,97,32,114]⟩, .slice (some ⟨s0+6,0,none⟩) 1 1, .slice (some ⟨s0+7,0,none⟩) 1 1,
 .int .i64 1, .string ⟨#[115,117,98,32,51,32,98,32,114]⟩, .slice (some ⟨s0+8,0,none⟩) 1 1, .slice (some ⟨s0+9,0,none⟩) 1 1,
 .int .i64 2, .string ⟨#[99,97,110,32,49]⟩, .slice (some ⟨s0+10,0,none⟩) 1 1, .slice (some ⟨s0+11,0,none⟩) 1 1,
 .int .i64 5, .string ⟨#[112,117,108,108]⟩, .slice (some ⟨s0+12,0,none⟩) 1 1, .slice (some ⟨s0+13,0,none⟩) 1 1,
 .int .i64 5, .string ⟨#[112,117,108,108]⟩, .slice (some ⟨s0+14,0,none⟩) 1 1, .slice (some ⟨s0+15,0,none⟩) 1 1,
 .int .i64 5, .string ⟨#[112,117,108,108]⟩, .slice none 0 0, .slice none 0 0,
 .int .i64 6, .string ⟨#[112,117,108,108]⟩, .slice none 0 0, .slice none 0 0,
 .int .i64 6, .string ⟨#[100,111,110,101,32,49,32,49,32,118]⟩, .slice none 0 0, .slice none 0 0,
 .int .i64 5, .string ⟨#[100,111,110,101,32,49,32,50,32,118]⟩, .slice none 0 0, .slice none 0 0,
 .int .i64 5, .string ⟨#[102,97,105,108,32,49,32,49]⟩, .slice (some ⟨s0+16,0,none⟩) 1 1, .slice (some ⟨s0+17,0,none⟩) 1 1,
 .int .i64 5, .string ⟨#[102,97,105,108,32,49,32,50]⟩, .slice (some ⟨s0+18,0,none⟩) 2 2, .slice (some ⟨s0+19,0,none⟩) 2 2,
 .int .i64 0, .string ⟨#[116,105,99,107]⟩, .slice none 0 0, .slice none 0 0,
 .int .i64 0, .string ⟨#[116,105,99,107]⟩, .slice none 0 0, .slice none 0 0,
 .int .i64 5, .string ⟨#[112,117,108,108]⟩, .slice none 0 0, .slice none 0 0,
 .int .i64 0, .string ⟨#[116,105,99,107]⟩, .slice (some ⟨s0+20,0,none⟩) 3 3, .slice (some ⟨s0+21,0,none⟩) 3 3]
def knObjs(s0:Nat)(e:TypeId):List Obj:= [
 .cells #[.int .i64 1] 3,
 .cells #[.string ⟨#[97,99,99,32,49]⟩] 9,
 .cells #[.int .i64 1] 3,
 .cells #[.string ⟨#[114,101,106,32,49,32,100,117,112]⟩] 9,
 .cells #[.int .i64 2] 3,
 .cells #[.string ⟨#[97,99,99,32,50]⟩] 9,
 .cells #[.int .i64 1] 3,
 .cells #[.string ⟨#[114,101,106,32,51,32,102,117,108,108]⟩] 9,
 .cells #[.int .i64 1] 3,
 .cells #[.string ⟨#[97,99,99,32,51]⟩] 9,
 .cells #[.int .i64 2] 3,
 .cells #[.string ⟨#[110,111,110,101,32,49]⟩] 9,
 .cells #[.int .i64 5] 3,
 .cells #[.string ⟨#[114,117,110,32,49,32,49,32,97,32,112]⟩] 9,
 .cells #[.int .i64 5] 3,
 .cells #[.string ⟨#[114,117,110,32,51,32,49,32,98,32,114]⟩] 9,
 .cells #[.int .i64 5] 3,
 .cells #[.string ⟨#[114,117,110,32,49,32,50,32,97,32,112]⟩] 9,
 .cells #[.int .i64 1, .int .i64 6] 3,
 .cells #[.string ⟨#[101,114,114,32,49]⟩, .string ⟨#[114,117,110,32,50,32,49,32,97,32,113]⟩] 9,
 .cells #[.int .i64 5, .int .i64 6, .int .i64 5] 3,
 .cells #[.string ⟨#[115,116,111,112,32,51,32,49]⟩, .string ⟨#[115,116,111,112,32,50,32,49]⟩, .string ⟨#[114,117,110,32,51,32,50,32,98,32,114]⟩] 9,
 .cells (knVals s0) e]
def knTick:Bs:= [116,105,99,107]
structure KnAt(s0 k:Nat)(c:Int)(t:Bs)(u v:Option Addr)(n:Nat)(x:List (Int×Bs)):Prop where
 c0:(knVals s0)[k*4]?=some (.int .i64 c)
 c1:(knVals s0)[k*4+1]?=some (.string ⟨t.toArray⟩)
 c2:(knVals s0)[k*4+2]?=some (.slice u n n)
 c3:(knVals s0)[k*4+3]?=some (.slice v n n)
 ev:(t=knTick∧knwEv k=⟨.tick,x⟩)∨(t≠knTick∧knwEv k=⟨.tell c t,x⟩)
 rows: ∀e w,(∀i,i<23->w.heap[s0+i]?=(knObjs s0 e)[i]?)->(∃G,(inA (.slice u n n) (x.map (·.1))).holds w G)∧ ∃G,(stA (.slice v n n) (x.map (·.2))).holds w G
 len: ∀y∈x,y.2.length<=1048576
theorem kn_0(s0:Nat):KnAt s0 0 1 [115,117,98,32,49,32,97,32,112] (some ⟨s0,0,none⟩) (some ⟨s0+1,0,none⟩) 1 [(1, [97,99,99,32,49])]:=⟨rfl,rfl,rfl,rfl,Or.inr ⟨by decide,rfl⟩,fun _ _ h=>⟨⟨_,row_lit (h 0 (by decide)) rfl rfl (by decide)⟩,⟨_,row_lit (h 1 (by decide)) rfl rfl (by decide)⟩⟩,by decide⟩
theorem kn_1(s0:Nat):KnAt s0 1 1 [115,117,98,32,49,32,98,32,112] (some ⟨s0+2,0,none⟩) (some ⟨s0+3,0,none⟩) 1 [(1, [114,101,106,32,49,32,100,117,112])]:=⟨rfl,rfl,rfl,rfl,Or.inr ⟨by decide,rfl⟩,fun _ _ h=>⟨⟨_,row_lit (h 2 (by decide)) rfl rfl (by decide)⟩,⟨_,row_lit (h 3 (by decide)) rfl rfl (by decide)⟩⟩,by decide⟩
theorem kn_2(s0:Nat):KnAt s0 2 2 [115,117,98,32,50,32,97,32,113] (some ⟨s0+4,0,none⟩) (some ⟨s0+5,0,none⟩) 1 [(2, [97,99,99,32,50])]:=⟨rfl,rfl,rfl,rfl,Or.inr ⟨by decide,rfl⟩,fun _ _ h=>⟨⟨_,row_lit (h 4 (by decide)) rfl rfl (by decide)⟩,⟨_,row_lit (h 5 (by decide)) rfl rfl (by decide)⟩⟩,by decide⟩
theorem kn_3(s0:Nat):KnAt s0 3 1 [115,117,98,32,51,32,97,32,114] (some ⟨s0+6,0,none⟩) (some ⟨s0+7,0,none⟩) 1 [(1, [114,101,106,32,51,32,102,117,108,108])]:=⟨rfl,rfl,rfl,rfl,Or.inr ⟨by decide,rfl⟩,fun _ _ h=>⟨⟨_,row_lit (h 6 (by decide)) rfl rfl (by decide)⟩,⟨_,row_lit (h 7 (by decide)) rfl rfl (by decide)⟩⟩,by decide⟩
theorem kn_4(s0:Nat):KnAt s0 4 1 [115,117,98,32,51,32,98,32,114] (some ⟨s0+8,0,none⟩) (some ⟨s0+9,0,none⟩) 1 [(1, [97,99,99,32,51])]:=⟨rfl,rfl,rfl,rfl,Or.inr ⟨by decide,rfl⟩,fun _ _ h=>⟨⟨_,row_lit (h 8 (by decide)) rfl rfl (by decide)⟩,⟨_,row_lit (h 9 (by decide)) rfl rfl (by decide)⟩⟩,by decide⟩
theorem kn_5(s0:Nat):KnAt s0 5 2 [99,97,110,32,49] (some ⟨s0+10,0,none⟩) (some ⟨s0+11,0,none⟩) 1 [(2, [110,111,110,101,32,49])]:=⟨rfl,rfl,rfl,rfl,Or.inr ⟨by decide,rfl⟩,fun _ _ h=>⟨⟨_,row_lit (h 10 (by decide)) rfl rfl (by decide)⟩,⟨_,row_lit (h 11 (by decide)) rfl rfl (by decide)⟩⟩,by decide⟩
theorem kn_6(s0:Nat):KnAt s0 6 5 [112,117,108,108] (some ⟨s0+12,0,none⟩) (some ⟨s0+13,0,none⟩) 1 [(5, [114,117,110,32,49,32,49,32,97,32,112])]:=⟨rfl,rfl,rfl,rfl,Or.inr ⟨by decide,rfl⟩,fun _ _ h=>⟨⟨_,row_lit (h 12 (by decide)) rfl rfl (by decide)⟩,⟨_,row_lit (h 13 (by decide)) rfl rfl (by decide)⟩⟩,by decide⟩
theorem kn_7(s0:Nat):KnAt s0 7 5 [112,117,108,108] (some ⟨s0+14,0,none⟩) (some ⟨s0+15,0,none⟩) 1 [(5, [114,117,110,32,51,32,49,32,98,32,114])]:=⟨rfl,rfl,rfl,rfl,Or.inr ⟨by decide,rfl⟩,fun _ _ h=>⟨⟨_,row_lit (h 14 (by decide)) rfl rfl (by decide)⟩,⟨_,row_lit (h 15 (by decide)) rfl rfl (by decide)⟩⟩,by decide⟩
theorem kn_8(s0:Nat):KnAt s0 8 5 [112,117,108,108] none none 0 []:=⟨rfl,rfl,rfl,rfl,Or.inr ⟨by decide,rfl⟩,fun _ w _=>⟨⟨_,row_none _ _ w⟩,⟨_,row_none _ _ w⟩⟩,by decide⟩
theorem kn_9(s0:Nat):KnAt s0 9 6 [112,117,108,108] none none 0 []:=⟨rfl,rfl,rfl,rfl,Or.inr ⟨by decide,rfl⟩,fun _ w _=>⟨⟨_,row_none _ _ w⟩,⟨_,row_none _ _ w⟩⟩,by decide⟩
theorem kn_10(s0:Nat):KnAt s0 10 6 [100,111,110,101,32,49,32,49,32,118] none none 0 []:=⟨rfl,rfl,rfl,rfl,Or.inr ⟨by decide,rfl⟩,fun _ w _=>⟨⟨_,row_none _ _ w⟩,⟨_,row_none _ _ w⟩⟩,by decide⟩
theorem kn_11(s0:Nat):KnAt s0 11 5 [100,111,110,101,32,49,32,50,32,118] none none 0 []:=⟨rfl,rfl,rfl,rfl,Or.inr ⟨by decide,rfl⟩,fun _ w _=>⟨⟨_,row_none _ _ w⟩,⟨_,row_none _ _ w⟩⟩,by decide⟩
theorem kn_12(s0:Nat):KnAt s0 12 5 [102,97,105,108,32,49,32,49] (some ⟨s0+16,0,none⟩) (some ⟨s0+17,0,none⟩) 1 [(5, [114,117,110,32,49,32,50,32,97,32,112])]:=⟨rfl,rfl,rfl,rfl,Or.inr ⟨by decide,rfl⟩,fun _ _ h=>⟨⟨_,row_lit (h 16 (by decide)) rfl rfl (by decide)⟩,⟨_,row_lit (h 17 (by decide)) rfl rfl (by decide)⟩⟩,by decide⟩
theorem kn_13(s0:Nat):KnAt s0 13 5 [102,97,105,108,32,49,32,50] (some ⟨s0+18,0,none⟩) (some ⟨s0+19,0,none⟩) 2 [(1, [101,114,114,32,49]),(6, [114,117,110,32,50,32,49,32,97,32,113])]:=⟨rfl,rfl,rfl,rfl,Or.inr ⟨by decide,rfl⟩,fun _ _ h=>⟨⟨_,row_lit (h 18 (by decide)) rfl rfl (by decide)⟩,⟨_,row_lit (h 19 (by decide)) rfl rfl (by decide)⟩⟩,by decide⟩
theorem kn_14(s0:Nat):KnAt s0 14 0 [116,105,99,107] none none 0 []:=⟨rfl,rfl,rfl,rfl,Or.inl ⟨rfl,rfl⟩,fun _ w _=>⟨⟨_,row_none _ _ w⟩,⟨_,row_none _ _ w⟩⟩,by decide⟩
theorem kn_15(s0:Nat):KnAt s0 15 0 [116,105,99,107] none none 0 []:=⟨rfl,rfl,rfl,rfl,Or.inl ⟨rfl,rfl⟩,fun _ w _=>⟨⟨_,row_none _ _ w⟩,⟨_,row_none _ _ w⟩⟩,by decide⟩
theorem kn_16(s0:Nat):KnAt s0 16 5 [112,117,108,108] none none 0 []:=⟨rfl,rfl,rfl,rfl,Or.inr ⟨by decide,rfl⟩,fun _ w _=>⟨⟨_,row_none _ _ w⟩,⟨_,row_none _ _ w⟩⟩,by decide⟩
theorem kn_17(s0:Nat):KnAt s0 17 0 [116,105,99,107] (some ⟨s0+20,0,none⟩) (some ⟨s0+21,0,none⟩) 3 [(5, [115,116,111,112,32,51,32,49]),(6, [115,116,111,112,32,50,32,49]),(5, [114,117,110,32,51,32,50,32,98,32,114])]:=⟨rfl,rfl,rfl,rfl,Or.inl ⟨rfl,rfl⟩,fun _ _ h=>⟨⟨_,row_lit (h 20 (by decide)) rfl rfl (by decide)⟩,⟨_,row_lit (h 21 (by decide)) rfl rfl (by decide)⟩⟩,by decide⟩
theorem kn_at(s0:Nat){k:Nat}(hk:k<18): ∃c t u v n x,KnAt s0 k c t u v n x:=by
 obtain rfl|rfl|rfl|rfl|rfl|rfl|rfl|rfl|rfl|rfl|rfl|rfl|rfl|rfl|rfl|rfl|rfl|rfl:k=0∨k=1∨k=2∨k=3∨k=4∨k=5∨k=6∨k=7∨k=8∨k=9∨k=10∨k=11∨k=12∨k=13∨k=14∨k=15∨k=16∨k=17:=by omega
 ·exact⟨_,_,_,_,_,_,kn_0 s0⟩
 ·exact⟨_,_,_,_,_,_,kn_1 s0⟩
 ·exact⟨_,_,_,_,_,_,kn_2 s0⟩
 ·exact⟨_,_,_,_,_,_,kn_3 s0⟩
 ·exact⟨_,_,_,_,_,_,kn_4 s0⟩
 ·exact⟨_,_,_,_,_,_,kn_5 s0⟩
 ·exact⟨_,_,_,_,_,_,kn_6 s0⟩
 ·exact⟨_,_,_,_,_,_,kn_7 s0⟩
 ·exact⟨_,_,_,_,_,_,kn_8 s0⟩
 ·exact⟨_,_,_,_,_,_,kn_9 s0⟩
 ·exact⟨_,_,_,_,_,_,kn_10 s0⟩
 ·exact⟨_,_,_,_,_,_,kn_11 s0⟩
 ·exact⟨_,_,_,_,_,_,kn_12 s0⟩
 ·exact⟨_,_,_,_,_,_,kn_13 s0⟩
 ·exact⟨_,_,_,_,_,_,kn_14 s0⟩
 ·exact⟨_,_,_,_,_,_,kn_15 s0⟩
 ·exact⟨_,_,_,_,_,_,kn_16 s0⟩
 ·exact⟨_,_,_,_,_,_,kn_17 s0⟩
section
variable{base:Nat}{dz:World}
theorem tick_beside(P:uO base dz)(wp:Nat)(s:St){n:Nat}(hv:Mc.Good n s)(hn:n<=1299998)(R:aM){w w1:World}{F:Ft}(hbs:base<=w.heap.size)(ho:Below base dz w)(hF: ∀q,F q->base<=q)(bK:Goes (aa (keepA P wp s) R) w F w1): ∃y,w1.cell? ⟨wp,0,none⟩=some (.pointer (some ⟨y,0,none⟩))∧Calls prog 26 #[.pointer (some ⟨y,0,none⟩)] w1 fun e w2=> ∃v,e= .returned v∧Goes (aa (iB v s.tick.out) (aa (keepA P wp s.tick.told) R)) w F w2:=by obtain⟨x,hx,hg⟩:=keepA_sep P wp s R bK;refine⟨x,hx, ?_⟩;have o2:=hg.only;refine mB (C:=fun e wa G wb=>RU (P.A x) s.tick wa G e wb) hg (fun G hG=>P.tick x n s w1 G (aw hbs o2.size) (ho.trans (o2.toBelow hF hbs)) hv hn hG) ?_;rintro e w3 G N3⟨v,rfl,mW⟩;refine⟨v,rfl, ?_⟩;have h3:=(N3 _ mW).eq (show _=aa (iB v s.tick.out) (aa (aa (blk wp (.cells #[.pointer (some ⟨x,0,none⟩)] 42 (0,0))) (P.A x s.tick.told)) R)by ac_rfl);refine h3.mono fun F' dR=> ?_;obtain⟨G1,G2,a1,⟨G3,G4,a3,a4,d2,e2⟩,d,e⟩:=dR;exact⟨G1,G2,a1,⟨G3,G4,⟨x,a3⟩,a4,d2,e2⟩,d,e⟩
end
end KpQ
namespace KpQ
open Go.RowKit aM Mc Mr Lw bJ
attribute [local go_sem] aL.ag aL.ar
section
variable{w:World}{P:uO w.heap.size w}{wp:Nat}
def KnI(P:uO w.heap.size w)(wp s0:Nat)(e:TypeId)(k:Nat)(wr:World):Prop:=Goes (aa (keepA P wp (wayS knwCfg 18 knwEv k)) (tabA s0 (knObjs s0 e))) w (fun _=>False) wr
theorem sum0:aL.line []= [32,48,48,48,48,48,48,48,48]:=by decide+kernel
theorem sum1:aL.line [112,117,108,108]= [112,117,108,108,32,55,48,55,53,54,99,54,99]:=by decide+kernel
theorem sum2:aL.line [115,117,98,32,49,32,97,32,120]= [115,117,98,32,49,32,97,32,120,32,49,54,55,102,56,55,56,48]:=by decide+kernel
theorem KnI.objs{s0:Nat}{e:TypeId}{k:Nat}{wr:World}(h:KnI P wp s0 e k wr): ∀i,i<23->wr.heap[s0+i]?=(knObjs s0 e)[i]?:=fun i hi=>by obtain⟨_,⟨_,_,_,h2,_,_⟩,_,_⟩:=h;rw[tab_at _ _ h2 i (by show i<23;exact hi),a7]
theorem KnI.cell{s0:Nat}{e:TypeId}{k:Nat}{wr:World}(h:KnI P wp s0 e k wr)(i:Nat){v:Value}(hv:(knVals s0)[i]?=some v):wr.cell? ⟨s0+22,i,none⟩=some v:=by have h2:wr.heap[s0+22]?=some (.cells (knVals s0) e (0,0)):=h.objs 22 (by omega);rw[bg h2,hv]
theorem kn_is{s0 k n b:Nat}{e e':TypeId}{c:Int}{t:Bs}{u v:Option Addr}{x:List (Int×Bs)}{r:Value}{cs:Array Value}{w6:World}(hA:KnAt s0 k c t u v n x)(hg:Goes (aa (iB r x) (aa (keepA P wp (wayS knwCfg 18 knwEv (k+1))) (aa (tabA s0 (knObjs s0 e)) (blk b (.cells cs e' (0,0)))))) w (fun _=>False) w6):(∀j,w6.cell? ⟨b,j,none⟩=cs[j]?)∧Calls prog 22 #[r, .slice u n n, .slice v n n] w6 fun e1 w7=>e1= .returned (.bool true)∧KnI P wp s0 e (k+1) w7:=by have kQ:=hg;obtain⟨F1,⟨Ga,Gr,ha,⟨Gk,GtQ,hk,⟨G1,G2,h1,h2,d3,e3⟩,d2,e2⟩,d1,e1⟩,o,nn⟩:=kQ;refine⟨fun j=>bg h2.1, ?_⟩;obtain⟨⟨Gb,hb⟩,⟨Gc,hc⟩⟩:=hA.rows e w6 (fun i hi=>by rw[tab_at _ _ h1 i (by show i<23;exact hi),a7]);refine(is_any P r _ _ x w6 o.size (o.toBelow no_ft (ae _)) hA.len Ga Gb Gc ha hb hc).mono fun e7 w7 ⟨he,D1⟩=>⟨he, ?_⟩;have h7:=(hg.below D1).eq (show _=aa (aa (keepA P wp (wayS knwCfg 18 knwEv (k+1))) (tabA s0 (knObjs s0 e))) (aa (iB r x) (blk b (.cells cs e' (0,0))))by ac_rfl);exact h7.drop
end
theorem known_any(w:World)(P:uO w.heap.size w):Calls prog 17 #[] w fun e w'=>e= .returned (.bool true)∧Below w.heap.size w w':=by
 have Od:Hid (∀w',Below w.heap.size w w'->Calls prog 28 #[.string ⟨#[]⟩] w' fun e dV=>e= .returned (.string ⟨#[32,48,48,48,48,48,48,48,48]⟩)∧Below w'.heap.size w' dV):=fun w' hb=>by have:=P.sums ⟨#[]⟩ w' hb.size hb (by decide);rw[show(⟨#[]⟩:ByteArray).data.toList= []from rfl,sum0]at this;exact this
 have HS2:Hid (∀w',Below w.heap.size w w'->Calls prog 28 #[.string ⟨#[112,117,108,108]⟩] w' fun e dV=>e= .returned (.string ⟨#[112,117,108,108,32,55,48,55,53,54,99,54,99]⟩)∧Below w'.heap.size w' dV):=fun w' hb=>by have:=P.sums ⟨#[112,117,108,108]⟩ w' hb.size hb (by decide);rw[show(⟨#[112,117,108,108]⟩:ByteArray).data.toList= [112,117,108,108]from rfl,sum1]at this;exact this
 have HS3:Hid (∀w',Below w.heap.size w w'->Calls prog 28 #[.string ⟨#[115,117,98,32,49,32,97,32,120]⟩] w' fun e dV=>e= .returned (.string ⟨#[115,117,98,32,49,32,97,32,120,32,49,54,55,102,56,55,56,48]⟩)∧Below w'.heap.size w' dV):=fun w' hb=>by have:=P.sums ⟨#[115,117,98,32,49,32,97,32,120]⟩ w' hb.size hb (by decide);rw[show(⟨#[115,117,98,32,49,32,97,32,120]⟩:ByteArray).data.toList= [115,117,98,32,49,32,97,32,120]from rfl,sum2]at this;exact this
 go_enter func17,ntmps17;go_wp2_with fail;refine(Od.out _ (ah _ _)).mono ?_;rintro e w1⟨rfl,hb1⟩;have YZ:=hide hb1;clear hb1 Od;go_wp2_with fail;refine(HS2.out _ YZ.out).mono ?_;rintro e w2⟨rfl,bN⟩;have Wt:=hide (YZ.out.trans (bN.mono YZ.out.size));clear bN HS2 YZ;go_wp2_with fail;refine(HS3.out _ Wt.out).mono ?_;rintro e w3⟨rfl,mh⟩;have RV:=hide (Wt.out.trans (mh.mono Wt.out.size));clear mh HS3 Wt;have RX:Hid (Calls prog 21 #[.agg #[.int .i64 3, .int .i64 1, .int .i64 1, .int .i64 2, .int .i64 2]] w3 (BeginP P knwCfg w3)):=Lm P knwCfg rfl w3 RV.out.size RV.out;go_wp2_with fail;refine RX.out.mono ?_;rintro e w4⟨wp,rfl,kI⟩;have HG:Hid (∀e,KnI P wp w4.heap.size e 0 ((knObjs w4.heap.size e).foldl World.alloc w4)):=fun e=>by have h:=goes_tab (knObjs w4.heap.size e) (DX kI RV.out);rw[<-wayS_zero knwCfg 18 knwEv]at h;exact h
 clear kI RX RV;go_wp2_with fail;go_loopw [67] (fun i wr=> ∃k:Nat,k<=18∧i= .int .i64 k∧Hid (∃e,KnI P wp w4.heap.size e k wr)) (fun i _=>18-(intOf i).toNat)
 case atStart=>exact⟨0,by omega,rfl,⟨_,HG.out _⟩⟩
 case round=>
  clear HG;obtain⟨k,hk,rfl,HI⟩:=hrel;by_cases ay:k<18
  ·obtain⟨c,t,u,v,n,x,hA⟩:=kn_at w4.heap.size ay;obtain⟨ei,hI⟩:=HI.out;have k0:=hI.cell _ hA.c0;have k1:=hI.cell _ hA.c1;have k2:=hI.cell _ hA.c2;have k3:=hI.cell _ hA.c3;have HII:=hide hI;have HA:=hide hA;clear HI hI hA;rcases HA.out.ev with⟨ht,hev⟩|⟨ht,hev⟩
   ·subst ht;change _=some (Value.string ⟨#[116,105,99,107]⟩)at k1;have hg:=HII.out.alloc (.cells #[.int .i64 c, .string ⟨knTick.toArray⟩, .slice u n n, .slice v n n] 69);have ld:=hg.eq (show _=aa (keepA P wp (wayS knwCfg 18 knwEv k)) (aa (tabA w4.heap.size (knObjs w4.heap.size ei)) (blk wr.heap.size (.cells #[.int .i64 c, .string ⟨knTick.toArray⟩, .slice u n n, .slice v n n] 69)))by ac_rfl);obtain⟨y,cy,hc⟩:=tick_beside P wp _ (knw_ok.good (j:=k) (by omega)) (by omega) _ (ae _) (ah _ _) no_ft ld;obtain⟨_,e2,e3⟩:=knw_ok.step ay;rw[hev]at e2 e3;have e4:(wayS knwCfg 18 knwEv k).tick.out=x:=e2;have e5:(wayS knwCfg 18 knwEv k).tick.told=wayS knwCfg 18 knwEv (k+1):=e3.symm;rw[e4,e5]at hc;change World.cell? (wr.alloc (.cells #[.int .i64 c, .string ⟨#[116,105,99,107]⟩, .slice u n n, .slice v n n] 69)) _=_ at cy;have HC:=hide hc;clear hc hg ld e2 e3 e4 e5 hev;go_wp2_with fail;refine HC.out.mono ?_;rintro e w6⟨r,rfl,iJ⟩;obtain⟨cc,his⟩:=kn_is HA.out iJ;have c2:w6.cell? ⟨wr.heap.size,2,none⟩=some (.slice u n n):=cc 2;have c3:w6.cell? ⟨wr.heap.size,3,none⟩=some (.slice v n n):=cc 3;have JX:=hide his;clear cc his iJ HC cy;go_wp2_with fail;refine JX.out.mono ?_;rintro e w7⟨rfl,u6⟩;have ZN:Hid (∃e,KnI P wp w4.heap.size e (k+1) w7):=hide ⟨_,u6⟩;clear u6 JX c2 c3;go_wp2;go_roundw
    case rel=>exact⟨k+1,by omega,by go_num,ZN⟩
    case measure=>simp[intOf];omega
   ·have cC:(t== [116,105,99,107])=false:=beq_eq_false_iff_ne.2 ht;have hg:=HII.out.alloc (.cells #[.int .i64 c, .string ⟨t.toArray⟩, .slice u n n, .slice v n n] 69);have ld:=hg.eq (show _=aa (keepA P wp (wayS knwCfg 18 knwEv k)) (aa (tabA w4.heap.size (knObjs w4.heap.size ei)) (blk wr.heap.size (.cells #[.int .i64 c, .string ⟨t.toArray⟩, .slice u n n, .slice v n n] 69)))by ac_rfl);obtain⟨e1,e2,e3⟩:=knw_ok.step ay;rw[hev]at e1 e2 e3;unfold EvQ.ok at e1;simp only[bZ,decide_eq_true_eq]at e1;obtain⟨⟨⟨h4,h5⟩,h6⟩,h7⟩:=e1;have hc:=say_beside P wp c ⟨h6,h7⟩ ⟨t.toArray⟩ _ (knw_ok.good (j:=k) (by omega)) (by show t.length<=1048576;omega) (by show k+(bW 10 (aL.line t++ [10])).length<=1299999;omega) _ (ae _) (ah _ _) no_ft ld;have e4:(tell (wayS knwCfg 18 knwEv k) c t).out=x:=e2;have e5:(tell (wayS knwCfg 18 knwEv k) c t).told=wayS knwCfg 18 knwEv (k+1):=e3.symm;rw[show(⟨t.toArray⟩:ByteArray).data.toList=t from rfl,e4,e5]at hc;have HC:=hide hc;clear hc hg ld e2 e3 e4 e5 hev h4 h5 h6 h7;go_wp2_with fail;refine HC.out.mono ?_;rintro e w6⟨r,rfl,iJ⟩;obtain⟨cc,his⟩:=kn_is HA.out iJ;have c2:w6.cell? ⟨wr.heap.size,2,none⟩=some (.slice u n n):=cc 2;have c3:w6.cell? ⟨wr.heap.size,3,none⟩=some (.slice v n n):=cc 3;have JX:=hide his;clear cc his iJ HC;go_wp2_with fail;refine JX.out.mono ?_;rintro e w7⟨rfl,u6⟩;have ZN:Hid (∃e,KnI P wp w4.heap.size e (k+1) w7):=hide ⟨_,u6⟩;clear u6 JX c2 c3;go_wp2;go_roundw
    case rel=>exact⟨k+1,by omega,by go_num,ZN⟩
    case measure=>simp[intOf];omega
  ·obtain rfl:k=18:=by omega
   obtain⟨ei,hI⟩:=HI.out;have HB:=hide hI.toBelow;clear HI hI;go_wp2;go_ret;exact⟨rfl,HB.out⟩
