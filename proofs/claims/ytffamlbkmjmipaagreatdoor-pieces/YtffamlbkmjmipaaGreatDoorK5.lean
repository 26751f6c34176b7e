import Derived.Test.YtffamlbkmjmipaaGreatDoorC34
import Derived.Test.YtffamlbkmjmipaaGreatDoorP1
set_option maxHeartbeats 8000000
set_option maxRecDepth 100000
namespace Go.Proofs.YtffamlbkmjmipaaGreatDoor
open _root_.Go.Proofs.Tryz
namespace Kp
open Go.RowKit aD Mc Mr Lw bA
variable{S:Bs}{n:Nat}{s:St}{l outs:List (Int×Bs)}
def N0:ic:=⟨3,1,2,3,2⟩
def N3:Bs:= [115,117,98,32,57,57,57,57,57,57,32,97,32,97]
def UK:Bs:= [97,99,99,32,57,57,57,57,57,57]
def UL:List Ev:= [⟨.tell 9 N3, [(9,UK)]⟩]
def PF:St:=(tell (St.init N0) 9 N3).told
theorem UN:lF (St.init N0) UL=true:=by decide+kernel
def yR(S:Bs)(i:Nat)(s:St)(l:List (Int×Bs)):Prop:= ∀b,(s.feed 1 b).told=(PF.feed 1 (S.take i++b)).told∧l++(s.feed 1 b).out=(PF.feed 1 (S.take i++b)).out
theorem Bb(S:Bs):yR S 0 PF []:=fun b=>by simp
theorem C6{i:Nat}(h:yR S i s l)(hn:s.ns.Nodup):yR S (i+n) (s.feed 1 ((S.drop i).take n)).told (l++(s.feed 1 ((S.drop i).take n)).out):=by
 intro b;obtain⟨h1,h2⟩:=St.I9 (c:=1) hn ((S.drop i).take n) b;obtain⟨h3,h4⟩:=h (((S.drop i).take n)++b);have e:S.take (i+n)=S.take i++(S.drop i).take n:=by rw[List.take_add]
 rw[e,List.append_assoc];refine⟨?_, ?_⟩
 ·rw[<-h2];exact h3
 ·rw[List.append_assoc,<-h1];exact h4
theorem zm(s:St)(c:Int):(s.conn c).out=s.out∧(s.conn c).now=s.now∧(s.conn c).ring=s.ring∧(s.conn c).ag=s.ag∧(s.conn c).wait=s.wait:=by unfold St.conn;split<;>exact⟨rfl,rfl,rfl,rfl,rfl⟩
theorem uZ(s:St)(c:Int):(s.feed c []).out=s.out∧(s.feed c []).now=s.now∧(s.feed c []).queued=s.queued∧(s.feed c []).ag=s.ag∧(s.feed c []).wait=s.wait:=by have e:s.feed c []=((s.conn c).conn c).bD c ((s.cu c++ []).take 81):=rfl;obtain⟨a1,a2,a3,a4,a5⟩:=zm s c;obtain⟨b1,b2,b3,b4,b5⟩:=zm (s.conn c) c;rw[e];refine⟨b1.trans a1,b2.trans a2, ?_,b4.trans a4,b5.trans a5⟩;unfold St.queued;exact congrArg (fun r:List Ln=>(r.map (·.ids.length)).sum) (b3.trans a3)
theorem GG(h:yR S S.length s l)(ho:s.out= []):l=(PF.feed 1 S).out∧(PF.feed 1 S).told.now=s.now∧(PF.feed 1 S).told.queued=s.queued∧(PF.feed 1 S).told.ag.length=s.ag.length∧(PF.feed 1 S).told.wait.length=s.wait.length:=by
 obtain⟨h1,h2⟩:=h [];rw[List.take_length,List.append_nil]at h1 h2;obtain⟨e1,e2,e3,e4,e5⟩:=uZ s 1;rw[e1,ho,List.append_nil]at h2;refine⟨h2, ?_, ?_, ?_, ?_⟩
 ·rw[<-h1];exact e2
 ·rw[<-h1];exact e3
 ·rw[<-h1];show(s.feed 1 []).ag.length=_;rw[e4]
 ·rw[<-h1];show(s.feed 1 []).wait.length=_;rw[e5]
theorem Cb(h:Mc.Good n s):s.ns.Nodup:=h.inv.cn
theorem vR(S:ByteArray)(i m:Nat):(S.extract i (i+m)).data.toList=(S.data.toList.drop i).take m:=by simp
theorem Dz{R:aD}{w w9 Hl:World}{F G:Ft}{av v9:Value}{o9:List (Int×Bs)}{ao:Option Addr}{cp:Nat}(hg:Goes (aa (dT av outs) (aa (dT v9 o9) R)) w F w9)(hG:(dT av outs).holds w9 G)(bz:Goes (rowA 51 2 (.slice ao (outs.length+o9.length) cp) (outs.length+o9.length) (flat o8 outs++flat o8 o9)) w9 G Hl):Goes (aa (dT (.slice ao (outs.length+o9.length) cp) (outs++o9)) R) w F Hl:=by have h1:=hg.part (pB _ _ _ _ _) hG bz;have h2:=h1.eq (show _=aa (aa (dT (.slice ao (outs.length+o9.length) cp) (outs++o9)) R) (dT v9 o9)by unfold dT;rw[Je,aC];ac_rfl);exact h2.drop
theorem CQ(l:List (Int×Bs)): ∀u∈flat o8 l,u.oneCell'=true:=by intro u hu;obtain⟨a,_,h⟩:=List.mem_flatMap.1 hu;simp only[o8,List.mem_cons,List.mem_nil_iff,or_false]at h;rcases h with rfl|rfl<;>rfl
structure SF(S:Bs)(j e:Nat)(st:St)(outs:List (Int×Bs)):Prop where
 far:yR S j st outs
 out:st.out= []
 good:Mc.Good (1+3*j+e) st
 len:outs.length<=1000000*j+300000*e
theorem vN(l:Bs)(m:Nat)(h:l.length<=m):(cD 10 l).length<=m+1:=by have h0:=(sX 10 l).1;unfold cD;rw[aC];simp only[List.length_cons,List.length_nil];omega
theorem SF.next{j e:Nat}{st:St}(h:SF S j e st outs)(m e':Nat)(hm:e<=1)(hS:S.length<=4106)(hj:j+m<=S.length)(hm6:m<=6)(he:e+(if m=0 then 1 else m)<=3*m+e')(ZU:1000000*j+300000*e+200000<=1000000*(j+m)+300000*e'):SF S (j+m) e' (st.feed 1 ((S.drop j).take m)).told (outs++(st.feed 1 ((S.drop j).take m)).out)∧(st.feed 1 ((S.drop j).take m)).out.length<=200000:=by
 have hl:((S.drop j).take m).length<=m:=by rw[List.length_take];omega
 have hg:Mc.Good (1+3*j+e+(if m=0 then 1 else m)) (st.feed 1 ((S.drop j).take m)):=by refine h.good.feed 1 _ (by split<;>omega) ?_;have:=vN _ m hl;split<;>omega
 have ho:(st.feed 1 ((S.drop j).take m)).out.length<=200000:=by
  have:=hg.sz;unfold St.sz at this;have h2:(if m=0 then 1 else m)<=6:=by split<;>omega
  omega
 refine⟨⟨C6 h.far (Cb h.good),rfl,hg.told.le (by omega), ?_⟩,ho⟩;rw[aC];have:=h.len;omega
section
variable{base:Nat}{bL:World}
theorem lV(P:iC base bL)(wp:Nat)(s:St)(R:aD){w w1:World}{F:Ft}(h:Goes (aa (keepA P wp s) R) w F w1): ∃x,w1.cell? ⟨wp,0,none⟩=some (.pointer (some ⟨x,0,none⟩))∧Goes (aa (P.A x s) (aa (blk wp (.cells #[.pointer (some ⟨x,0,none⟩)] 42 (0,0))) R)) w F w1:=by obtain⟨F1,⟨G,H,⟨x,hx⟩,hH,d,e⟩,o,n⟩:=h;refine⟨x,b9 (bQ hx).1, ?_⟩;have h1:(aa (aa (blk wp (.cells #[.pointer (some ⟨x,0,none⟩)] 42 (0,0))) (P.A x s)) R).holds w1 F1:=⟨G,H,hx,hH,d,e⟩;exact(show Goes _ w F w1 from⟨F1,h1,o,n⟩).eq (by ac_rfl)
theorem lX(P:iC base bL)(wp:Nat)(c:Int)(hc:I64 c)(b:ByteArray)(hb:b.size<=2097152)(s:St){n:Nat}(hv:Mc.Good n s)(hn:n+(cD 10 b.data.toList).length<=1299999)(R:aD){w w1:World}{F:Ft}(Bx:base<=w.heap.size)(ho:Below base bL w)(hF: ∀q,F q->base<=q)(bz:Goes (aa (keepA P wp s) R) w F w1): ∃x,w1.cell? ⟨wp,0,none⟩=some (.pointer (some ⟨x,0,none⟩))∧ ∀w2,Below w1.heap.size w1 w2->Calls prog 29 #[.pointer (some ⟨x,0,none⟩), .int .i64 c, .string b] w2 fun e w3=> ∃v,e= .returned v∧Goes (aa (aa (dT v (s.feed c b.data.toList).out) (keepA P wp (s.feed c b.data.toList).told)) R) w F w3∧w3.cell? ⟨wp,0,none⟩=some (.pointer (some ⟨x,0,none⟩)):=by
 obtain⟨x,hx,hg⟩:=lV P wp s R bz;refine⟨x,hx,fun w2 h2=> ?_⟩;have eO:=hg.below h2;have o2:=eO.only;refine gP (C:=fun e wa G wb=>Ho (P.A x) (s.feed c b.data.toList) wa G e wb) eO (fun G hG=>P.feed x c b n s w2 G (au Bx o2.size) (ho.trans (o2.toBelow hF Bx)) hc hb hv hn hG) ?_;rintro e w3 G Cz⟨v,rfl,eP⟩;refine⟨v,rfl, ?_⟩;have h3:=(Cz _ eP).eq (show _=aa (aa (dT v (s.feed c b.data.toList).out) (aa (blk wp (.cells #[.pointer (some ⟨x,0,none⟩)] 42 (0,0))) (P.A x (s.feed c b.data.toList).told))) R by ac_rfl);refine⟨h3.mono fun F' nk=> ?_, ?_⟩
 ·obtain⟨G1,G2,⟨G3,G4,a1,a2,d2,e2⟩,hR,d,e⟩:=nk;exact⟨G1,G2,⟨G3,G4,a1,⟨x,a2⟩,d2,e2⟩,hR,d,e⟩
 ·obtain⟨_,⟨_,_,⟨_,_,_,a2,_,_⟩,_,_,_⟩,_,_⟩:=h3;exact b9 (bQ a2).1
theorem Ad(P:iC base bL){wp:Nat}{s:St}{w:World}{H:Ft}(h:(keepA P wp s).holds w H):H wp∧wp<w.heap.size:=by obtain⟨x,hx⟩:=h;obtain⟨h1,h2⟩:=bQ hx;exact⟨h2,(bZ.1 h1).1⟩
theorem nO(P:iC base bL)(wp:Nat)(c:Int)(hc:I64 c)(t:ByteArray)(s:St){n:Nat}(hv:Mc.Good n s)(ht:t.size<=1048576)(hn:n+(cD 10 (aP.line t.data.toList++ [10])).length<=1299999)(R:aD){w w1:World}{F:Ft}(Bx:base<=w.heap.size)(ho:Below base bL w)(hF: ∀q,F q->base<=q)(bz:Goes (aa (keepA P wp s) R) w F w1):Calls prog 23 #[.pointer (some ⟨wp,0,none⟩), .int .i64 c, .string t] w1 fun e w2=> ∃v,e= .returned v∧Goes (aa (dT v (tell s c t.data.toList).out) (aa (keepA P wp (tell s c t.data.toList).told) R)) w F w2:=by have o1:=bz.only;refine gP (C:=fun e wa G wb=>SI P wp (tell s c t.data.toList) wa G e wb) bz (fun G hG=>mi P wp c t hc s hv ht hn w1 G (au Bx o1.size) (ho.trans (o1.toBelow hF Bx)) hG) ?_;rintro e w2 G Cz⟨v,rfl,hg⟩;exact⟨v,rfl,(Cz _ hg).eq (by ac_rfl)⟩
theorem qo(P:iC base bL)(R:aD){v:Value}{l:List (Int×Bs)}{w w1 w2:World}{F:Ft}(hb:base<=w.heap.size)(ho:Below base bL w)(hF: ∀q,F q->base<=q)(bz:Goes (aa (dT v l) R) w F w1)(h2:Below w1.heap.size w1 w2)(ht: ∀x∈l,x.2.length<=1048576){bc bt n:Nat}(hn:l.length=n)(hm:n<=1000)(hc:w2.heap[bc]?=some (.cells (l.map fun x=>Value.int .i64 x.1).toArray 3 (0,0)))(hs:w2.heap[bt]?=some (.cells (l.map fun x=>Value.string ⟨x.2.toArray⟩).toArray 9 (0,0))):Calls prog 22 #[v, .slice (some ⟨bc,0,none⟩) n n, .slice (some ⟨bt,0,none⟩) n n] w2 fun e w3=>e= .returned (.bool true)∧Goes R w F w3:=by
 subst hn;have eO:=bz.below h2;obtain⟨G,_,hG,_,_,_,_⟩:=eO.pieces;have o2:=eO.only;have D8:l.length<=maxLen:=by unfold maxLen;omega
 refine(CE P v _ _ l w2 (au hb o2.size) (ho.trans (o2.toBelow hF hb)) ht G (fun k=>k=bc) (fun k=>k=bt) hG ?_ ?_).mono ?_
 ·unfold inA;rw[aR,DU];exact bW hc rfl (by rw[aR,Nat.mul_one]) D8
 ·unfold stA;rw[aR,DV];exact bW hs rfl (by rw[aR,Nat.mul_one]) D8
 ·rintro e w3⟨rfl,nU⟩;exact⟨rfl,((eO.below nU).eq (aZ _ _)).drop⟩
theorem Q4:(tell (St.init N0) 9 N3).out= [(9,UK)]:=by have h:=ur UL (St.init N0) UN 0 (by decide);exact h.2.1
theorem UM:(cD 10 (aP.line N3++ [10])).length<=2:=by decide+kernel
theorem CF(P:iC base bL)(wp:Nat)(s:St){n:Nat}(hv:Mc.Good n s)(hn:n<=1299998)(R:aD){w w1:World}{F:Ft}(hb:base<=w.heap.size)(ho:Below base bL w)(hF: ∀q,F q->base<=q)(bz:Goes (aa (keepA P wp s) R) w F w1): ∃x,w1.cell? ⟨wp,0,none⟩=some (.pointer (some ⟨x,0,none⟩))∧ ∀w2,Below w1.heap.size w1 w2->Calls prog 25 #[.pointer (some ⟨x,0,none⟩)] w2 fun e w3=>e= .returned (.agg #[.int .i64 s.now, .int .i64 s.queued, .int .i64 s.ag.length, .int .i64 s.wait.length])∧Below w2.heap.size w2 w3:=by obtain⟨x,hx,hg⟩:=lV P wp s R bz;refine⟨x,hx,fun w2 h2=> ?_⟩;have eO:=hg.below h2;have o2:=eO.only;obtain⟨G,_,hG,_,_,_,_⟩:=eO.pieces;exact P.look x n s w2 G (au hb o2.size) (ho.trans (o2.toBelow hF hb)) hv hn hG
theorem CT(P:iC base bL)(ww:Nat)(S:ByteArray){j m e:Nat}{st:St}{outs:List (Int×Bs)}(h:SF S.data.toList j e st outs)(he:e<=1)(hS:S.size<=4106)(hj:j+m<=S.size)(R:aD){av:Value}{w w1:World}{F:Ft}(Bx:base<=w.heap.size)(ho:Below base bL w)(hF: ∀q,F q->base<=q)(bz:Goes (aa (dT av outs) (aa (keepA P ww st) R)) w F w1): ∃x,w1.cell? ⟨ww,0,none⟩=some (.pointer (some ⟨x,0,none⟩))∧Calls prog 29 #[.pointer (some ⟨x,0,none⟩), .int .i64 1, .string (S.extract j (j+m))] w1.drew fun en w9=> ∃v9,en= .returned v9∧w9.cell? ⟨ww,0,none⟩=some (.pointer (some ⟨x,0,none⟩))∧ ∃G9 VI,(dT av outs).holds w9 G9∧ ¬G9 ww∧ww<w9.heap.size∧(dT v9 (st.feed 1 ((S.data.toList.drop j).take m)).out).holds w9 VI∧ ∀ao cp Hl,Goes (rowA 51 2 (.slice ao (outs.length+(st.feed 1 ((S.data.toList.drop j).take m)).out.length) cp) (outs.length+(st.feed 1 ((S.data.toList.drop j).take m)).out.length) (flat o8 outs++flat o8 (st.feed 1 ((S.data.toList.drop j).take m)).out)) w9 G9 Hl->Goes (aa (dT (.slice ao (outs++(st.feed 1 ((S.data.toList.drop j).take m)).out).length cp) (outs++(st.feed 1 ((S.data.toList.drop j).take m)).out)) (aa (keepA P ww (st.feed 1 ((S.data.toList.drop j).take m)).told) R)) w F Hl:=by
 have hl:((S.data.toList.drop j).take m).length<=m:=by rw[List.length_take];omega
 have hc:=vN _ m hl;obtain⟨x,cx,ZW⟩:=lX P ww 1 (by unfold I64;omega) (S.extract j (j+m)) (by simp;omega) st h.good (by rw[vR];omega) (aa (dT av outs) R) Bx ho hF (bz.eq (by ac_rfl));rw[vR]at ZW;refine⟨x,cx,(ZW w1.drew (ar _ _).drew).mono ?_⟩;rintro en w9⟨v9,rfl,Fp,cw9⟩;have TM:=Fp.eq (show _=aa (dT av outs) (aa (dT v9 (st.feed 1 ((S.data.toList.drop j).take m)).out) (aa (keepA P ww (st.feed 1 ((S.data.toList.drop j).take m)).told) R))by ac_rfl);obtain⟨G9,H9,Zy,hH9,_,_,ZN⟩:=TM.pieces;obtain⟨VI,H9b,WJ,⟨H9c,_,hk9,_,_,e9c⟩,_,e9b⟩:=hH9;obtain⟨Xo,Xt⟩:=Ad P hk9;refine⟨v9,rfl,cw9,G9,VI,Zy,fun h=>ZN ww h ((e9b ww).2 (.inr ((e9c ww).2 (.inl Xo)))),Xt,WJ,fun ao cp Hl TP=> ?_⟩;rw[aC];exact Dz TM Zy TP
end
def QR:List Ev:= [⟨.tell 1 [115,117,98,32,49,32,97,32,112], [(1, [97,99,99,32,49])]⟩,
 ⟨.tell 1 [115,117,98,32,49,32,98,32,112], [(1, [114,101,106,32,49,32,100,117,112])]⟩,
 ⟨.tell 2 [115,117,98,32,50,32,97,32,113], [(2, [97,99,99,32,50])]⟩,
 ⟨.tell 1 [115,117,98,32,51,32,97,32,114], [(1, [114,101,106,32,51,32,102,117,108,108])]⟩,
 ⟨.tell 1 [115,117,98,32,51,32,98,32,114], [(1, [97,99,99,32,51])]⟩,
 ⟨.tell 2 [99,97,110,32,49], [(2, [110,111,110,101,32,49])]⟩,
 ⟨.tell 5 [112,117,108,108], [(5, [114,117,110,32,49,32,49,32,97,32,112])]⟩,
 ⟨.tell 5 [112,117,108,108], [(5, [114,117,110,32,51,32,49,32,98,32,114])]⟩,
 ⟨.tell 5 [112,117,108,108], []⟩,
 ⟨.tell 6 [112,117,108,108], []⟩,
 ⟨.tell 6 [100,111,110,101,32,49,32,49,32,118], []⟩,
 ⟨.tell 5 [100,111,110,101,32,49,32,50,32,118], []⟩,
 ⟨.tell 5 [102,97,105,108,32,49,32,49], [(5, [114,117,110,32,49,32,50,32,97,32,112])]⟩,
 ⟨.tell 5 [102,97,105,108,32,49,32,50], [(1, [101,114,114,32,49]),(6, [114,117,110,32,50,32,49,32,97,32,113])]⟩,
 ⟨.tick, []⟩,
 ⟨.tick, []⟩,
 ⟨.tell 5 [112,117,108,108], []⟩,
 ⟨.tick, [(5, [115,116,111,112,32,51,32,49]),(6, [115,116,111,112,32,50,32,49]),(5, [114,117,110,32,51,32,50,32,98,32,114])]⟩]
def il(j:Nat):Ev:=(QR[j]?).getD ⟨.none, []⟩
def eX:ic:=⟨3,1,1,2,2⟩
theorem Nz:G7 eX 18 il=true:=by decide+kernel
theorem xF:Way eX 18 il:=yr Nz (by omega)
def vA(b:Nat):List Obj->aD
 | []=>emp
 |o::l=>aa (blk b o) (vA (b+1) l)
theorem Dd: ∀(l:List Obj) (b:Nat) {w:World} {F:Ft},(vA b l).holds w F-> ∀i (hi:i<l.length),w.heap[b+i]?=some (l[i]'hi)
 | [],_,_,_,_,i,hi=>by simp at hi
 |o::l,b,w,F,h,i,hi=>by
  obtain⟨G,H,h1,h2,d,e⟩:=h;cases i with
  |zero=>exact h1.1
  |succ i=>have:=Dd l (b+1) h2 i (by simpa using hi);rw[show b+(i+1)=b+1+i by omega];exact this
theorem zG{A:aD}: ∀(l:List Obj) {w w1:World} {F:Ft},Goes A w F w1->Goes (aa A (vA w1.heap.size l)) w F (l.foldl World.alloc w1)
 | [],_,_,_,h=>by show Goes (aa A emp) _ _ _;rw[mj];exact h
 |o::l,w,w1,F,h=>by have h2:=zG l (h.alloc o);rw[World.size_alloc]at h2;exact h2.eq (show aa (aa (blk w1.heap.size o) A) (vA (w1.heap.size+1) l)=aa A (aa (blk w1.heap.size o) (vA (w1.heap.size+1) l))by ac_rfl)
theorem dx(e:TypeId)(z:Nat)(w:World):(rowA e z (.slice none 0 0) 0 []).holds w (fun _=>False):=⟨by simp, .inl ⟨rfl,rfl,fun _ h=>h⟩⟩
def nB(s0:Nat):Array Value:= #[
 .int .i64 1, .string ⟨#[115,117,98,32,49,32,97,32,112]⟩, .slice (some ⟨s0,0,none⟩) 1 1, .slice (some ⟨s0+1,0,none⟩) 1 1,
 .int .i64 1, .string ⟨#[115,117,98,32,49,32,98,32,112]⟩, .slice (some ⟨s0+2,0,none⟩) 1 1, .slice (some ⟨s0+3,0,none⟩) 1 1,
 .int .i64 2, .string ⟨#[115,117,98,32,50,32,97,32,113]⟩, .slice (some ⟨s0+4,0,none⟩) 1 1, .slice (some ⟨s0+5,0,none⟩) 1 1,
 .int .i64 1, .string ⟨#[115,117,98,32,51,32,97,32,114]⟩, .slice (some ⟨s0+6,0,none⟩) 1 1, .slice (some ⟨s0+7,0,none⟩) 1 1,
 .int .i64 1, .string ⟨#[115,117,98,32,51,32,98,32,114]⟩, .slice (some ⟨s0+8,0,none⟩) 1 1, .slice (some ⟨s0+9,0,none⟩) 1 1,
 .int .i64 2, .string ⟨#[99,97,110,32,49]⟩, .slice (some ⟨s0+10,0,none⟩) 1 1, .slice (some ⟨s0+11,0,none⟩) 1 1,
 .int .i64 5, .string ⟨#[112,117,108,108]⟩, .slice (some ⟨s0+12,0,none⟩) 1 1, .slice (some ⟨s0+13,0,none⟩) 1 1,
 .int .i64 5, .string ⟨#[112,117,108,108]⟩, .slice (some ⟨s0+14,0,none⟩) 1 1, .slice (some ⟨s0+15,0,none⟩) 1 1,
 .int .i64 5, .string ⟨#[112,117,108,108]⟩, .slice none 0 0, .slice none 0 0,
 .int .i64 6, .string ⟨#[112,117,108,108]⟩, .slice none 0 0, .slice none 0 0,
 .int .i64 6, .string ⟨#[100,111,110,101,32,49,32,49,32,118]⟩, .slice none 0 0, .slice none 0 0,
 .int .i64 5, .string ⟨#[100,111,110,101,32,49,32,50,32,118]⟩, .slice none 0 0, .slice none 0 0,
 .int .i64 5, .string ⟨#[102,97,105,108,32,49,32,49]⟩, .slice (some ⟨s0+16,0,none⟩) 1 1, .slice (some ⟨s0+17,0,none⟩) 1 1,
 .int .i64 5, .string ⟨#[102,97,105,108,32,49,32,50]⟩, .slice (some ⟨s0+18,0,none⟩) 2 2, .slice (some ⟨s0+19,0,none⟩) 2 2,
 .int .i64 0, .string ⟨#[116,105,99,107]⟩, .slice none 0 0, .slice none 0 0,
 .int .i64 0, .string ⟨#[116,105,99,107]⟩, .slice none 0 0, .slice none 0 0,
 .int .i64 5, .string ⟨#[112,117,108,108]⟩, .slice none 0 0, .slice none 0 0,
 .int .i64 0, .string ⟨#[116,105,99,107]⟩, .slice (some ⟨s0+20,0,none⟩) 3 3, .slice (some ⟨s0+21,0,none⟩) 3 3]
def kD(s0:Nat)(e:TypeId):List Obj:= [
 .cells #[.int .i64 1] 3,
 .cells #[.string ⟨#[97,99,99,32,49]⟩] 9,
 .cells #[.int .i64 1] 3,
 .cells #[.string ⟨#[114,101,106,32,49,32,100,117,112]⟩] 9,
 .cells #[.int .i64 2] 3,
 .cells #[.string ⟨#[97,99,99,32,50]⟩] 9,
 .cells #[.int .i64 1] 3,
 .cells #[.string ⟨#[114,101,106,32,51,32,102,117,108,108]⟩] 9,
 .cells #[.int .i64 1] 3,
 .cells #[.string ⟨#[97,99,99,32,51]⟩] 9,
 .cells #[.int .i64 2] 3,
 .cells #[.string ⟨#[110,111,110,101,32,49]⟩] 9,
 .cells #[.int .i64 5] 3,
 .cells #[.string ⟨#[114,117,110,32,49,32,49,32,97,32,112]⟩] 9,
 .cells #[.int .i64 5] 3,
 .cells #[.string ⟨#[114,117,110,32,51,32,49,32,98,32,114]⟩] 9,
 .cells #[.int .i64 5] 3,
 .cells #[.string ⟨#[114,117,110,32,49,32,50,32,97,32,112]⟩] 9,
 .cells #[.int .i64 1, .int .i64 6] 3,
 .cells #[.string ⟨#[101,114,114,32,49]⟩, .string ⟨#[114,117,110,32,50,32,49,32,97,32,113]⟩] 9,
 .cells #[.int .i64 5, .int .i64 6, .int .i64 5] 3,
 .cells #[.string ⟨#[115,116,111,112,32,51,32,49]⟩, .string ⟨#[115,116,111,112,32,50,32,49]⟩, .string ⟨#[114,117,110,32,51,32,50,32,98,32,114]⟩] 9,
 .cells (nB s0) e]
def xD:Bs:= [116,105,99,107]
structure jN(s0 k:Nat)(c:Int)(t:Bs)(u v:Option Addr)(n:Nat)(x:List (Int×Bs)):Prop where
 c0:(nB s0)[k*4]?=some (.int .i64 c)
 c1:(nB s0)[k*4+1]?=some (.string ⟨t.toArray⟩)
 c2:(nB s0)[k*4+2]?=some (.slice u n n)
 c3:(nB s0)[k*4+3]?=some (.slice v n n)
 ev:(t=xD∧il k=⟨.tick,x⟩)∨(t≠xD∧il k=⟨.tell c t,x⟩)
 rows: ∀e w,(∀i,i<23->w.heap[s0+i]?=(kD s0 e)[i]?)->(∃G,(inA (.slice u n n) (x.map (·.1))).holds w G)∧ ∃G,(stA (.slice v n n) (x.map (·.2))).holds w G
 len: ∀y∈x,y.2.length<=1048576
theorem X2(s0:Nat):jN s0 0 1 [115,117,98,32,49,32,97,32,112] (some ⟨s0,0,none⟩) (some ⟨s0+1,0,none⟩) 1 [(1, [97,99,99,32,49])]:=⟨rfl,rfl,rfl,rfl,Or.inr ⟨by decide,rfl⟩,fun _ _ h=>⟨⟨_,bW (h 0 (by decide)) rfl rfl (by decide)⟩,⟨_,bW (h 1 (by decide)) rfl rfl (by decide)⟩⟩,by decide⟩
theorem X3(s0:Nat):jN s0 1 1 [115,117,98,32,49,32,98,32,112] (some ⟨s0+2,0,none⟩) (some ⟨s0+3,0,none⟩) 1 [(1, [114,101,106,32,49,32,100,117,112])]:=⟨rfl,rfl,rfl,rfl,Or.inr ⟨by decide,rfl⟩,fun _ _ h=>⟨⟨_,bW (h 2 (by decide)) rfl rfl (by decide)⟩,⟨_,bW (h 3 (by decide)) rfl rfl (by decide)⟩⟩,by decide⟩
theorem X4(s0:Nat):jN s0 2 2 [115,117,98,32,50,32,97,32,113] (some ⟨s0+4,0,none⟩) (some ⟨s0+5,0,none⟩) 1 [(2, [97,99,99,32,50])]:=⟨rfl,rfl,rfl,rfl,Or.inr ⟨by decide,rfl⟩,fun _ _ h=>⟨⟨_,bW (h 4 (by decide)) rfl rfl (by decide)⟩,⟨_,bW (h 5 (by decide)) rfl rfl (by decide)⟩⟩,by decide⟩
theorem X5(s0:Nat):jN s0 3 1 [115,117,98,32,51,32,97,32,114] (some ⟨s0+6,0,none⟩) (some ⟨s0+7,0,none⟩) 1 [(1, [114,101,106,32,51,32,102,117,108,108])]:=⟨rfl,rfl,rfl,rfl,Or.inr ⟨by decide,rfl⟩,fun _ _ h=>⟨⟨_,bW (h 6 (by decide)) rfl rfl (by decide)⟩,⟨_,bW (h 7 (by decide)) rfl rfl (by decide)⟩⟩,by decide⟩
theorem X6(s0:Nat):jN s0 4 1 [115,117,98,32,51,32,98,32,114] (some ⟨s0+8,0,none⟩) (some ⟨s0+9,0,none⟩) 1 [(1, [97,99,99,32,51])]:=⟨rfl,rfl,rfl,rfl,Or.inr ⟨by decide,rfl⟩,fun _ _ h=>⟨⟨_,bW (h 8 (by decide)) rfl rfl (by decide)⟩,⟨_,bW (h 9 (by decide)) rfl rfl (by decide)⟩⟩,by decide⟩
theorem X7(s0:Nat):jN s0 5 2 [99,97,110,32,49] (some ⟨s0+10,0,none⟩) (some ⟨s0+11,0,none⟩) 1 [(2, [110,111,110,101,32,49])]:=⟨rfl,rfl,rfl,rfl,Or.inr ⟨by decide,rfl⟩,fun _ _ h=>⟨⟨_,bW (h 10 (by decide)) rfl rfl (by decide)⟩,⟨_,bW (h 11 (by decide)) rfl rfl (by decide)⟩⟩,by decide⟩
theorem X8(s0:Nat):jN s0 6 5 [112,117,108,108] (some ⟨s0+12,0,none⟩) (some ⟨s0+13,0,none⟩) 1 [(5, [114,117,110,32,49,32,49,32,97,32,112])]:=⟨rfl,rfl,rfl,rfl,Or.inr ⟨by decide,rfl⟩,fun _ _ h=>⟨⟨_,bW (h 12 (by decide)) rfl rfl (by decide)⟩,⟨_,bW (h 13 (by decide)) rfl rfl (by decide)⟩⟩,by decide⟩
theorem X9(s0:Nat):jN s0 7 5 [112,117,108,108] (some ⟨s0+14,0,none⟩) (some ⟨s0+15,0,none⟩) 1 [(5, [114,117,110,32,51,32,49,32,98,32,114])]:=⟨rfl,rfl,rfl,rfl,Or.inr ⟨by decide,rfl⟩,fun _ _ h=>⟨⟨_,bW (h 14 (by decide)) rfl rfl (by decide)⟩,⟨_,bW (h 15 (by decide)) rfl rfl (by decide)⟩⟩,by decide⟩
theorem Ya(s0:Nat):jN s0 8 5 [112,117,108,108] none none 0 []:=⟨rfl,rfl,rfl,rfl,Or.inr ⟨by decide,rfl⟩,fun _ w _=>⟨⟨_,dx _ _ w⟩,⟨_,dx _ _ w⟩⟩,by decide⟩
theorem Yb(s0:Nat):jN s0 9 6 [112,117,108,108] none none 0 []:=⟨rfl,rfl,rfl,rfl,Or.inr ⟨by decide,rfl⟩,fun _ w _=>⟨⟨_,dx _ _ w⟩,⟨_,dx _ _ w⟩⟩,by decide⟩
theorem Uw(s0:Nat):jN s0 10 6 [100,111,110,101,32,49,32,49,32,118] none none 0 []:=⟨rfl,rfl,rfl,rfl,Or.inr ⟨by decide,rfl⟩,fun _ w _=>⟨⟨_,dx _ _ w⟩,⟨_,dx _ _ w⟩⟩,by decide⟩
theorem Ux(s0:Nat):jN s0 11 5 [100,111,110,101,32,49,32,50,32,118] none none 0 []:=⟨rfl,rfl,rfl,rfl,Or.inr ⟨by decide,rfl⟩,fun _ w _=>⟨⟨_,dx _ _ w⟩,⟨_,dx _ _ w⟩⟩,by decide⟩
theorem Uy(s0:Nat):jN s0 12 5 [102,97,105,108,32,49,32,49] (some ⟨s0+16,0,none⟩) (some ⟨s0+17,0,none⟩) 1 [(5, [114,117,110,32,49,32,50,32,97,32,112])]:=⟨rfl,rfl,rfl,rfl,Or.inr ⟨by decide,rfl⟩,fun _ _ h=>⟨⟨_,bW (h 16 (by decide)) rfl rfl (by decide)⟩,⟨_,bW (h 17 (by decide)) rfl rfl (by decide)⟩⟩,by decide⟩
theorem Uz(s0:Nat):jN s0 13 5 [102,97,105,108,32,49,32,50] (some ⟨s0+18,0,none⟩) (some ⟨s0+19,0,none⟩) 2 [(1, [101,114,114,32,49]),(6, [114,117,110,32,50,32,49,32,97,32,113])]:=⟨rfl,rfl,rfl,rfl,Or.inr ⟨by decide,rfl⟩,fun _ _ h=>⟨⟨_,bW (h 18 (by decide)) rfl rfl (by decide)⟩,⟨_,bW (h 19 (by decide)) rfl rfl (by decide)⟩⟩,by decide⟩
theorem UA(s0:Nat):jN s0 14 0 [116,105,99,107] none none 0 []:=⟨rfl,rfl,rfl,rfl,Or.inl ⟨rfl,rfl⟩,fun _ w _=>⟨⟨_,dx _ _ w⟩,⟨_,dx _ _ w⟩⟩,by decide⟩
theorem UB(s0:Nat):jN s0 15 0 [116,105,99,107] none none 0 []:=⟨rfl,rfl,rfl,rfl,Or.inl ⟨rfl,rfl⟩,fun _ w _=>⟨⟨_,dx _ _ w⟩,⟨_,dx _ _ w⟩⟩,by decide⟩
theorem UC(s0:Nat):jN s0 16 5 [112,117,108,108] none none 0 []:=⟨rfl,rfl,rfl,rfl,Or.inr ⟨by decide,rfl⟩,fun _ w _=>⟨⟨_,dx _ _ w⟩,⟨_,dx _ _ w⟩⟩,by decide⟩
theorem UD(s0:Nat):jN s0 17 0 [116,105,99,107] (some ⟨s0+20,0,none⟩) (some ⟨s0+21,0,none⟩) 3 [(5, [115,116,111,112,32,51,32,49]),(6, [115,116,111,112,32,50,32,49]),(5, [114,117,110,32,51,32,50,32,98,32,114])]:=⟨rfl,rfl,rfl,rfl,Or.inl ⟨rfl,rfl⟩,fun _ _ h=>⟨⟨_,bW (h 20 (by decide)) rfl rfl (by decide)⟩,⟨_,bW (h 21 (by decide)) rfl rfl (by decide)⟩⟩,by decide⟩
theorem UE(s0:Nat){k:Nat}(hk:k<18): ∃c t u v n x,jN s0 k c t u v n x:=by
 obtain rfl|rfl|rfl|rfl|rfl|rfl|rfl|rfl|rfl|rfl|rfl|rfl|rfl|rfl|rfl|rfl|rfl|rfl:k=0∨k=1∨k=2∨k=3∨k=4∨k=5∨k=6∨k=7∨k=8∨k=9∨k=10∨k=11∨k=12∨k=13∨k=14∨k=15∨k=16∨k=17:=by omega
 ·exact⟨_,_,_,_,_,_,X2 s0⟩
 ·exact⟨_,_,_,_,_,_,X3 s0⟩
 ·exact⟨_,_,_,_,_,_,X4 s0⟩
 ·exact⟨_,_,_,_,_,_,X5 s0⟩
 ·exact⟨_,_,_,_,_,_,X6 s0⟩
 ·exact⟨_,_,_,_,_,_,X7 s0⟩
 ·exact⟨_,_,_,_,_,_,X8 s0⟩
 ·exact⟨_,_,_,_,_,_,X9 s0⟩
 ·exact⟨_,_,_,_,_,_,Ya s0⟩
 ·exact⟨_,_,_,_,_,_,Yb s0⟩
 ·exact⟨_,_,_,_,_,_,Uw s0⟩
 ·exact⟨_,_,_,_,_,_,Ux s0⟩
 ·exact⟨_,_,_,_,_,_,Uy s0⟩
 ·exact⟨_,_,_,_,_,_,Uz s0⟩
 ·exact⟨_,_,_,_,_,_,UA s0⟩
 ·exact⟨_,_,_,_,_,_,UB s0⟩
 ·exact⟨_,_,_,_,_,_,UC s0⟩
 ·exact⟨_,_,_,_,_,_,UD s0⟩
section
variable{base:Nat}{bL:World}
theorem Bl(P:iC base bL)(wp:Nat)(s:St){n:Nat}(hv:Mc.Good n s)(hn:n<=1299998)(R:aD){w w1:World}{F:Ft}(Bx:base<=w.heap.size)(ho:Below base bL w)(hF: ∀q,F q->base<=q)(bz:Goes (aa (keepA P wp s) R) w F w1): ∃y,w1.cell? ⟨wp,0,none⟩=some (.pointer (some ⟨y,0,none⟩))∧Calls prog 26 #[.pointer (some ⟨y,0,none⟩)] w1 fun e w2=> ∃v,e= .returned v∧Goes (aa (dT v s.tick.out) (aa (keepA P wp s.tick.told) R)) w F w2:=by obtain⟨x,hx,hg⟩:=lV P wp s R bz;refine⟨x,hx, ?_⟩;have o2:=hg.only;refine gP (C:=fun e wa G wb=>Ho (P.A x) s.tick wa G e wb) hg (fun G hG=>P.tick x n s w1 G (au Bx o2.size) (ho.trans (o2.toBelow hF Bx)) hv hn hG) ?_;rintro e w3 G Cz⟨v,rfl,eP⟩;refine⟨v,rfl, ?_⟩;have h3:=(Cz _ eP).eq (show _=aa (dT v s.tick.out) (aa (aa (blk wp (.cells #[.pointer (some ⟨x,0,none⟩)] 42 (0,0))) (P.A x s.tick.told)) R)by ac_rfl);refine h3.mono fun F' nk=> ?_;obtain⟨G1,G2,a1,⟨G3,G4,a3,a4,d2,e2⟩,d,e⟩:=nk;exact⟨G1,G2,a1,⟨G3,G4,⟨x,a3⟩,a4,d2,e2⟩,d,e⟩
end
end Kp
namespace Kp
open Go.RowKit aD Mc Mr Lw bA
attribute [local go_sem] aP.ae aP.ah
section
variable{w:World}{P:iC w.heap.size w}{wp:Nat}
def Ml(P:iC w.heap.size w)(wp s0:Nat)(e:TypeId)(k:Nat)(wr:World):Prop:=Goes (aa (keepA P wp (bX eX 18 il k)) (vA s0 (kD s0 e))) w (fun _=>False) wr
theorem Yo:aP.line []= [32,48,48,48,48,48,48,48,48]:=by decide+kernel
theorem Yp:aP.line [112,117,108,108]= [112,117,108,108,32,55,48,55,53,54,99,54,99]:=by decide+kernel
theorem Yq:aP.line [115,117,98,32,49,32,97,32,120]= [115,117,98,32,49,32,97,32,120,32,49,54,55,102,56,55,56,48]:=by decide+kernel
theorem Ml.objs{s0:Nat}{e:TypeId}{k:Nat}{wr:World}(h:Ml P wp s0 e k wr): ∀i,i<23->wr.heap[s0+i]?=(kD s0 e)[i]?:=fun i hi=>by obtain⟨_,⟨_,_,_,h2,_,_⟩,_,_⟩:=h;rw[Dd _ _ h2 i (by show i<23;exact hi),aV]
theorem Ml.cell{s0:Nat}{e:TypeId}{k:Nat}{wr:World}(h:Ml P wp s0 e k wr)(i:Nat){v:Value}(hv:(nB s0)[i]?=some v):wr.cell? ⟨s0+22,i,none⟩=some v:=by have h2:wr.heap[s0+22]?=some (.cells (nB s0) e (0,0)):=h.objs 22 (by omega);rw[b9 h2,hv]
theorem Py{s0 k n b:Nat}{e e':TypeId}{c:Int}{t:Bs}{u v:Option Addr}{x:List (Int×Bs)}{r:Value}{cs:Array Value}{w6:World}(hA:jN s0 k c t u v n x)(hg:Goes (aa (dT r x) (aa (keepA P wp (bX eX 18 il (k+1))) (aa (vA s0 (kD s0 e)) (blk b (.cells cs e' (0,0)))))) w (fun _=>False) w6):(∀j,w6.cell? ⟨b,j,none⟩=cs[j]?)∧Calls prog 22 #[r, .slice u n n, .slice v n n] w6 fun e1 w7=>e1= .returned (.bool true)∧Ml P wp s0 e (k+1) w7:=by have iG:=hg;obtain⟨F1,⟨Ga,Gr,ha,⟨Gk,Gt,hk,⟨G1,G2,h1,h2,d3,e3⟩,d2,e2⟩,d1,e1⟩,o,nn⟩:=iG;refine⟨fun j=>b9 h2.1, ?_⟩;obtain⟨⟨Gb,hb⟩,⟨Gc,hc⟩⟩:=hA.rows e w6 (fun i hi=>by rw[Dd _ _ h1 i (by show i<23;exact hi),aV]);refine(CE P r _ _ x w6 o.size (o.toBelow jy (af _)) hA.len Ga Gb Gc ha hb hc).mono fun e7 w7 ⟨he,r9⟩=>⟨he, ?_⟩;have h7:=(hg.below r9).eq (show _=aa (aa (keepA P wp (bX eX 18 il (k+1))) (vA s0 (kD s0 e))) (aa (dT r x) (blk b (.cells cs e' (0,0))))by ac_rfl);exact h7.drop
end
theorem FI(w:World)(P:iC w.heap.size w):Calls prog 17 #[] w fun e w'=>e= .returned (.bool true)∧Below w.heap.size w w':=by
 have pR:Hid (∀w',Below w.heap.size w w'->Calls prog 28 #[.string ⟨#[]⟩] w' fun e fM=>e= .returned (.string ⟨#[32,48,48,48,48,48,48,48,48]⟩)∧Below w'.heap.size w' fM):=fun w' hb=>by have:=P.sums ⟨#[]⟩ w' hb.size hb (by decide);rw[show(⟨#[]⟩:ByteArray).data.toList= []from rfl,Yo]at this;exact this
 have uP:Hid (∀w',Below w.heap.size w w'->Calls prog 28 #[.string ⟨#[112,117,108,108]⟩] w' fun e fM=>e= .returned (.string ⟨#[112,117,108,108,32,55,48,55,53,54,99,54,99]⟩)∧Below w'.heap.size w' fM):=fun w' hb=>by have:=P.sums ⟨#[112,117,108,108]⟩ w' hb.size hb (by decide);rw[show(⟨#[112,117,108,108]⟩:ByteArray).data.toList= [112,117,108,108]from rfl,Yp]at this;exact this
 have LM:Hid (∀w',Below w.heap.size w w'->Calls prog 28 #[.string ⟨#[115,117,98,32,49,32,97,32,120]⟩] w' fun e fM=>e= .returned (.string ⟨#[115,117,98,32,49,32,97,32,120,32,49,54,55,102,56,55,56,48]⟩)∧Below w'.heap.size w' fM):=fun w' hb=>by have:=P.sums ⟨#[115,117,98,32,49,32,97,32,120]⟩ w' hb.size hb (by decide);rw[show(⟨#[115,117,98,32,49,32,97,32,120]⟩:ByteArray).data.toList= [115,117,98,32,49,32,97,32,120]from rfl,Yq]at this;exact this
 go_enter func17,ntmps17;go_wp2_with fail;refine(pR.out _ (ar _ _)).mono ?_;rintro e w1⟨rfl,bP⟩;have PN:=hide bP;clear bP pR;go_wp2_with fail;refine(uP.out _ PN.out).mono ?_;rintro e w2⟨rfl,cL⟩;have Hd:=hide (PN.out.trans (cL.mono PN.out.size));clear cL uP PN;go_wp2_with fail;refine(LM.out _ Hd.out).mono ?_;rintro e w3⟨rfl,nU⟩;have UY:=hide (Hd.out.trans (nU.mono Hd.out.size));clear nU LM Hd;have yG:Hid (Calls prog 21 #[.agg #[.int .i64 3, .int .i64 1, .int .i64 1, .int .i64 2, .int .i64 2]] w3 (pO P eX w3)):=fB P eX rfl w3 UY.out.size UY.out;go_wp2_with fail;refine yG.out.mono ?_;rintro e w4⟨wp,rfl,gL⟩;have HG:Hid (∀e,Ml P wp w4.heap.size e 0 ((kD w4.heap.size e).foldl World.alloc w4)):=fun e=>by have h:=zG (kD w4.heap.size e) (jt gL UY.out);rw[<-mr eX 18 il]at h;exact h
 clear gL yG UY;go_wp2_with fail;go_loopw [67] (fun i wr=> ∃k:Nat,k<=18∧i= .int .i64 k∧Hid (∃e,Ml P wp w4.heap.size e k wr)) (fun i _=>18-(intOf i).toNat)
 case atStart=>exact⟨0,by omega,rfl,⟨_,HG.out _⟩⟩
 case round=>
  clear HG;obtain⟨k,hk,rfl,HI⟩:=hrel;by_cases aQ:k<18
  ·obtain⟨c,t,u,v,n,x,hA⟩:=UE w4.heap.size aQ;obtain⟨ei,hI⟩:=HI.out;have k0:=hI.cell _ hA.c0;have k1:=hI.cell _ hA.c1;have k2:=hI.cell _ hA.c2;have k3:=hI.cell _ hA.c3;have YL:=hide hI;have HA:=hide hA;clear HI hI hA;rcases HA.out.ev with⟨ht,tE⟩|⟨ht,tE⟩
   ·subst ht;change _=some (Value.string ⟨#[116,105,99,107]⟩)at k1;have hg:=YL.out.alloc (.cells #[.int .i64 c, .string ⟨xD.toArray⟩, .slice u n n, .slice v n n] 69);have eO:=hg.eq (show _=aa (keepA P wp (bX eX 18 il k)) (aa (vA w4.heap.size (kD w4.heap.size ei)) (blk wr.heap.size (.cells #[.int .i64 c, .string ⟨xD.toArray⟩, .slice u n n, .slice v n n] 69)))by ac_rfl);obtain⟨y,cy,hc⟩:=Bl P wp _ (xF.good (j:=k) (by omega)) (by omega) _ (af _) (ar _ _) jy eO;obtain⟨_,e2,e3⟩:=xF.step aQ;rw[tE]at e2 e3;have e4:(bX eX 18 il k).tick.out=x:=e2;have e5:(bX eX 18 il k).tick.told=bX eX 18 il (k+1):=e3.symm;rw[e4,e5]at hc;change World.cell? (wr.alloc (.cells #[.int .i64 c, .string ⟨#[116,105,99,107]⟩, .slice u n n, .slice v n n] 69)) _=_ at cy;have HC:=hide hc;clear hc hg eO e2 e3 e4 e5 tE;go_wp2_with fail;refine HC.out.mono ?_;rintro e w6⟨r,rfl,gM⟩;obtain⟨cc,TY⟩:=Py HA.out gM;have c2:w6.cell? ⟨wr.heap.size,2,none⟩=some (.slice u n n):=cc 2;have c3:w6.cell? ⟨wr.heap.size,3,none⟩=some (.slice v n n):=cc 3;have jG:=hide TY;clear cc TY gM HC cy;go_wp2_with fail;refine jG.out.mono ?_;rintro e w7⟨rfl,ik⟩;have Rv:Hid (∃e,Ml P wp w4.heap.size e (k+1) w7):=hide ⟨_,ik⟩;clear ik jG c2 c3;go_wp2;go_roundw
    case rel=>exact⟨k+1,by omega,by go_num,Rv⟩
    case measure=>simp[intOf];omega
   ·have cz:(t== [116,105,99,107])=false:=beq_eq_false_iff_ne.2 ht;have hg:=YL.out.alloc (.cells #[.int .i64 c, .string ⟨t.toArray⟩, .slice u n n, .slice v n n] 69);have eO:=hg.eq (show _=aa (keepA P wp (bX eX 18 il k)) (aa (vA w4.heap.size (kD w4.heap.size ei)) (blk wr.heap.size (.cells #[.int .i64 c, .string ⟨t.toArray⟩, .slice u n n, .slice v n n] 69)))by ac_rfl);obtain⟨e1,e2,e3⟩:=xF.step aQ;rw[tE]at e1 e2 e3;unfold Ev.ok at e1;simp only[a8,decide_eq_true_eq]at e1;obtain⟨⟨⟨h4,h5⟩,h6⟩,h7⟩:=e1;have hc:=nO P wp c ⟨h6,h7⟩ ⟨t.toArray⟩ _ (xF.good (j:=k) (by omega)) (by show t.length<=1048576;omega) (by show k+(cD 10 (aP.line t++ [10])).length<=1299999;omega) _ (af _) (ar _ _) jy eO;have e4:(tell (bX eX 18 il k) c t).out=x:=e2;have e5:(tell (bX eX 18 il k) c t).told=bX eX 18 il (k+1):=e3.symm;rw[show(⟨t.toArray⟩:ByteArray).data.toList=t from rfl,e4,e5]at hc;have HC:=hide hc;clear hc hg eO e2 e3 e4 e5 tE h4 h5 h6 h7;go_wp2_with fail;refine HC.out.mono ?_;rintro e w6⟨r,rfl,gM⟩;obtain⟨cc,TY⟩:=Py HA.out gM;have c2:w6.cell? ⟨wr.heap.size,2,none⟩=some (.slice u n n):=cc 2;have c3:w6.cell? ⟨wr.heap.size,3,none⟩=some (.slice v n n):=cc 3;have jG:=hide TY;clear cc TY gM HC;go_wp2_with fail;refine jG.out.mono ?_;rintro e w7⟨rfl,ik⟩;have Rv:Hid (∃e,Ml P wp w4.heap.size e (k+1) w7):=hide ⟨_,ik⟩;clear ik jG c2 c3;go_wp2;go_roundw
    case rel=>exact⟨k+1,by omega,by go_num,Rv⟩
    case measure=>simp[intOf];omega
  ·obtain rfl:k=18:=by omega
   obtain⟨ei,hI⟩:=HI.out;have HB:=hide hI.toBelow;clear HI hI;go_wp2;go_ret;exact⟨rfl,HB.out⟩
