import Derived.Test.YtffamlbkmjmipaaGreatDoorC11
import Derived.Test.YtffamlbkmjmipaaGreatDoorC12
import Derived.Test.YtffamlbkmjmipaaGreatDoorC15
import Derived.Test.YtffamlbkmjmipaaGreatDoorC20
set_option maxHeartbeats 8000000
set_option maxRecDepth 100000
namespace Go.Proofs.YtffamlbkmjmipaaGreatDoor
open _root_.Go.Proofs.Tryz
namespace Pj
open Go.RowKit aJ Mc
attribute [local go_sem] ae ag
theorem CN: ∀(f u:Nat),u<10 ^(f+1)->kP (f+1) u=Lib.decDigits u
 |0,u,h=>by unfold kP;rw[Lib.decDigits,if_pos (by omega),dif_pos (by omega)]
 |f+1,u,h=>by
  unfold kP;rw[Lib.decDigits];by_cases h0:u<10
  ·rw[if_pos h0,dif_pos h0]
  ·rw[if_neg h0,dif_neg h0,CN f (u/10) (by rw[Nat.pow_succ]at h;omega)]
inductive Part where
 |s (b:Bs)
 |n (x:Int)
def Part.txt:Part->Bs
 | .s b=>b
 | .n x=>bZ x
def Part.val:Part->Value
 | .s b=> .iface 9 (bs b)
 | .n x=> .iface 3 (.int .i64 x)
def Part.ok:Part->Prop
 | .s b=>b.length<=64
 | .n x=>0<=x∧x<=9223372036854775807
def said(ps:List Part):Bs:=Lib.join (ps.map Part.txt) [32]
def uQ(tb:Nat)(out:List (Int×Bs)):aJ:=ex fun ov=>aa (blk tb (.cells #[ov] 94 (0,0))) (Mr.gZ ov out)
theorem Ni{x:Int}(h:0<=x∧x<=9223372036854775807):Lib.itoa x=bZ x:=by unfold Lib.itoa bZ;rw[if_neg (by omega),CN 19 _ (by omega)]
theorem asS(v:Value)(w:World):(Instr.typeAssert (.iface 9 v) 20 9 true).run prog w= .ok (.tuple #[v, .bool true]) w:=by kernel_rfl
theorem asN(v:Value)(w:World):(Instr.typeAssert (.iface 3 v) 20 9 true).run prog w= .ok (.tuple #[.string ⟨#[]⟩, .bool false]) w:=by kernel_rfl
theorem asI(v:Value)(w:World):(Instr.typeAssert (.iface 3 v) 20 3 true).run prog w= .ok (.tuple #[v, .bool true]) w:=by kernel_rfl
theorem SX:(prog.info? 9).map (fun i=>(i.zero,i.size,i.bytes))=some (some (.string ⟨#[]⟩),1,16):=by kernel_rfl
theorem SV:(prog.info? 51).map (fun i=>(i.zero,i.size,i.bytes))=some (some (.agg #[.int .i64 0, .string ⟨#[]⟩]),2,24):=by kernel_rfl
theorem MJ:Builder.Extra prog Dk:={sizeBuilder:=by kernel_rfl,liesBuilder:=by kernel_rfl,t5:=underlying5,a5:=isAgg5,z5:=sizeOf5,v5:=zeroValue5,infoByte:=by kernel_rfl,cellsByte:=by kernel_rfl,sizeByte:=by kernel_rfl,neB5:=by decide}
theorem Cm{w w1 w2:World}(h:Below w.heap.size w w1)(h2:Below w1.heap.size w1 w2):Below w.heap.size w w2:=
 ⟨h2.os.trans h.os,h2.tape.trans h.tape,h2.output.trans h.output,ar h.size h2.size,fun k hk=>(h2.block k (bD hk h.size)).trans (h.block k hk)⟩
theorem below_grow(w:World)(k:Nat)(os:Array Obj):Below w.heap.size w (Go.Sort.grow (w.drewN k) os):=by refine⟨rfl,rfl,rfl,by simp[Go.Sort.grow],fun i hi=> ?_⟩;show(w.heap++os)[i]?=w.heap[i]?;rw[Array.getElem?_append_left hi]
theorem nU(tb:Nat)(c:Int)(ps:List Part)(pb po cp:Nat)(out:List (Int×Bs))(w:World)(F:Ft)(h:(uQ tb out).holds w F)(hps: ∀k p,ps[k]?=some p->w.cell? ⟨pb,po+k,none⟩=some p.val)(ZC:0<ps.length)(hn:ps.length<=16)(ZE:pb<w.heap.size)(BZ: ∀p∈ps,p.ok)(hlen:(said ps).length<=1048576)(Gz:out.length<=134217728)(hT: ∀w',Below w.heap.size w w'->Lib.TabIs prog w' "internal/strconv.uint64pow10" .u64 Lib.pow10Tab):Calls prog 89 #[pt tb, .int .i64 c, .slice (some ⟨pb,po,none⟩) ps.length cp] w fun e w'=>e= .returned (.tuple #[])∧Goes (uQ tb (out++ [(c,said ps)])) w F w':=by
 obtain⟨i0,jo,mz,ja,jK⟩:=fQ SX;obtain⟨i1,y7,ZP,ZQ,ZR⟩:=fQ SV;have HP:=hide hps;have HT:=hide hT;have RG:=hide BZ;have HH:=hide h;have uU:=hide hlen;clear hps hT BZ h hlen;unfold pt;obtain⟨Z,hZ,hmk⟩: ∃Z:Array Value,Z.size=ps.length∧(Instr.makeSlice 37 (.int .i64 0) (.int .i64 (ps.length:Int))).run prog w= .ok (.slice (some ⟨w.heap.size,0,none⟩) 0 ps.length) (w.alloc (.cells Z 9)):=by have:=run_makeSlice (P:=prog) w 37 9 i0 (.string ⟨#[]⟩) underlying37 jo mz .i64 .i64 0 (ps.length:Int) (by omega) (by omega) (by rw[ja];simp;omega) (by rw[jK];omega) (by omega);refine⟨_, ?_,this⟩;simp[madeCells,ja]
 go_enter func89,ntmps89;go_wp2;go_loopw [6,17] (fun lv i wr=> ∃k:Nat,k<=ps.length∧i= .int .i64 k∧ ∃iQ mn,lv= .slice iQ k mn∧Hid (Goes (rowA 9 1 (.slice iQ k mn) k ((ps.take k).map fun p=>bs p.txt)) w (fun _=>False) wr)) (fun _ i _=>ps.length-(intOf i).toNat)
 case atStart=>refine⟨0,bh _,rfl,some ⟨w.heap.size,0,none⟩,ps.length,rfl, ?_⟩;show Goes _ _ _ _;refine⟨fun k=>k=w.heap.size,⟨by simp, .inr ⟨w.heap.size,0,ps.length,Z,rfl,fun k=>Iff.rfl,heap_alloc_new w _,bh _,by unfold maxLen;omega,by omega,by simp⟩⟩,(Only.refl _ _).alloc _,fun k hk=> .inr (by omega)⟩
 case round=>
  obtain⟨k,hk,rfl,iQ,mn,rfl,HN⟩:=hrel;have hB:=gU HN.out;have dc:=hB.size;by_cases aN:k<ps.length
  ·have c0:wr.cell? ⟨pb,po+k,none⟩=some (ps[k]'aN).val:=by
    rw[hB.cell (p:=⟨pb,po+k,none⟩) ZE];exact HP.out k _ (aY aN)
   have SP:=RG.out _ (bS aN);obtain⟨Gr,pX,WH,WC⟩:=HN.out;have AD:Hid ((ps.take (k+1)).map (fun p=>bs p.txt)=(ps.take k).map (fun p=>bs p.txt)++ [bs (ps[k]'aN).txt]):=by show(_=_);rw[iG aN,aD];rfl
   have XZ:Hid (∀(b:Bs) (wa:World) (dK:Option Addr) (pS:Nat) (w2:World),bs (ps[k]'aN).txt=bs b->Only (fun _=>False) w wa->Goes (rowA 9 1 (.slice dK (k+1) pS) (k+1) (((ps.take k).map fun p=>bs p.txt)++ [.string ⟨b.toArray⟩])) wa Gr w2->Goes (rowA 9 1 (.slice dK (k+1) pS) (k+1) ((ps.take (k+1)).map fun p=>bs p.txt)) w (fun _=>False) w2):=fun b wa dK pS w2 e o hg=>by rw[AD.out,e];exact aC o WC hg
   have jf:=hide pX;have HOO:=hide WH;clear HN pX WH WC;cases rK:(ps[k]'aN)with
   |s b=>
    have HEB:Hid (bs (ps[k]'aN).txt=bs b):=by show(_=_);rw[rK];rfl
    rw[rK]at c0;have zl:wr.cell? ⟨pb,po+k,none⟩=some (.iface 9 (.string ⟨b.toArray⟩)):=c0;have hta: ∀w,_:=fun w=>asS (.string ⟨b.toArray⟩) w;have Rl:k<=16:=by omega
    clear c0 rK SP;go_wp2_with (first
     |(at_builtin;go_must(refine aT _ rfl _ _ 37 rfl 9 i0 (.string ⟨#[]⟩) 1 16 underlying37 jo mz ja jK rfl (by decide) (F:=Gr) _ k ((ps.take k).map fun p:Part=>bs p.txt) rfl (Mr.aI jf.out ((au _ _).alloc (af _) _)) ⟨wr.heap.size,0,none⟩ 1 1 [.string ⟨b.toArray⟩] rfl rfl (World.news_of_block (cs:= #[.string ⟨b.toArray⟩]) (t:=9) (fr:=(0,0)) (heap_alloc_new wr _)) (by simp[Value.oneCell']) (by unfold maxLen;omega) (by omega) ?_;intro dK pS w2 bE;have mD:=hide (XZ.out b _ dK pS w2 HEB.out (HOO.out.alloc _) bE);clear bE)))
    go_roundw
    case rel=>exact⟨k+1,by omega,by go_num,dK,pS,by first|rfl|go_num,mD⟩
    case measure=>simp[intOf];omega
   |n y=>
    have HEB:Hid (bs (ps[k]'aN).txt=bs (bZ y)):=by show(_=_);rw[rK];rfl
    rw[rK]at c0 SP;have ZT:0<=y∧y<=9223372036854775807:=SP;have zl:wr.cell? ⟨pb,po+k,none⟩=some (.iface 3 (.int .i64 y)):=c0;have hta: ∀w,_:=fun w=>asN (.int .i64 y) w;have htb: ∀w,_:=fun w=>asI (.int .i64 y) w;have HIT:=Any.strconv_Itoa itoa y (by omega) ZT.2 wr (HT.out wr hB);change Calls prog 135 _ _ _ at HIT;rw[Ni ZT]at HIT;have Rl:k<=16:=by omega
    clear c0 rK SP;go_wp2_with (first
     |(go_at_call 135;go_must(refine HIT.mono ?_;rintro e w1⟨rfl,q1,os1,i7⟩;have bT:=below_grow wr q1 os1;rw[<-i7]at bT;have HB1:=hide bT;clear i7 bT))
     |(at_builtin;go_must(refine aT _ rfl _ _ 37 rfl 9 i0 (.string ⟨#[]⟩) 1 16 underlying37 jo mz ja jK rfl (by decide) (F:=Gr) _ k ((ps.take k).map fun p:Part=>bs p.txt) rfl (Mr.aI (Mr.aI jf.out HB1.out) ((au _ _).alloc (af _) _)) ⟨w1.heap.size,0,none⟩ 1 1 [.string ⟨(bZ y).toArray⟩] rfl rfl (World.news_of_block (cs:= #[.string ⟨(bZ y).toArray⟩]) (t:=9) (fr:=(0,0)) (heap_alloc_new w1 _)) (by simp[Value.oneCell']) (by unfold maxLen;omega) (by omega) ?_;intro dK pS w2 bE;have mD:=hide (XZ.out (bZ y) _ dK pS w2 HEB.out ((HOO.out.below HB1.out).alloc _) bE);clear bE)))
    go_roundw
    case rel=>exact⟨k+1,by omega,by go_num,dK,pS,by first|rfl|go_num,mD⟩
    case measure=>simp[intOf];omega
  ·obtain rfl:k=ps.length:=by omega
   obtain⟨Gr,pX,WH,WC⟩:=HN.out;rw[List.take_length]at pX;obtain⟨ov,hH⟩:=HH.out;obtain⟨G1,G2,bT,hou,dd,ee⟩:=hH;obtain⟨oo,Qk,rfl,_⟩:=bX hou;have htb:tb<w.heap.size:=(cC.1 bT.1).1;obtain⟨g',off,rfl⟩: ∃g' off,iQ=some ⟨g',off,none⟩:=by obtain⟨_,_,e1,_,_,h4,_⟩:=bX pX;cases e1;obtain⟨g',off,e2,_⟩:=h4 ZC;exact⟨g',off,e2⟩
   have Ke:ps.length<=mn:=by obtain⟨_,_,e1,h2,_⟩:=bX pX;cases e1;exact h2
   have HJ:Hid (Calls prog 136 #[.slice (some ⟨g',off,none⟩) ps.length mn, .string ⟨#[32]⟩] wr fun e w'=>e= .returned (.string ⟨(said ps).toArray⟩)∧Below wr.heap.size wr w'):=by
    have em:(ps.map fun p=>(⟨p.txt.toArray⟩:ByteArray)).map (·.data.toList)=ps.map Part.txt:=by rw[aB];exact bz fun p _=>by simp
    have:=Any.strings_Join join MJ g' off mn (ps.map fun p=>(⟨p.txt.toArray⟩:ByteArray)) ⟨#[32]⟩ wr (fun j x hx=>by
     rw[List.getElem?_map]at hx;cases hj:ps[j]? with
     |none=>rw[hj]at hx;cases hx
     |some p=>rw[hj]at hx;have Xv:j<ps.length:=(cz.1 hj).1;rw[bf pX j (by omega),List.getElem?_map,hj];simp only[Option.map_some,Option.some.injEq]at hx⊢;rw[<-hx];rfl) (mf pX).1 (by simp;omega) (by simpa using Ke) (by rw[em];have:=uU.out;unfold said at this;exact ar this (by omega))
    rw[em,aF]at this;exact this
   have yX:Hid (∀w2,Calls prog 46 #[.string ⟨(said ps).toArray⟩] w2 fun e w'=>e= .returned (.string ⟨(aG.line (said ps)).toArray⟩)∧Below w2.heap.size w2 w'):=fun w2=>by have:=aG.sS ⟨(said ps).toArray⟩ w2 (by have:=uU.out;exact ar (by simpa[ByteArray.size]using this) (show 1048576<=1000000000000000 by decide));simpa using this
   have kJ:Hid (∀w3,Below w.heap.size w w3->w3.cell? ⟨tb,0,none⟩=some (.slice oo out.length Qk)∧(rowA 51 2 (.slice oo out.length Qk) out.length (flat Mr.DV out)).holds (w3.alloc (.cells #[.int .i64 c, .string ⟨(aG.line (said ps)).toArray⟩] 51)) G2∧
     ∀RU R6 w5,Goes (rowA 51 2 (.slice RU (out.length+1) R6) (out.length+1) (flat Mr.DV out++ [.int .i64 c, .string ⟨(aG.line (said ps)).toArray⟩])) (w3.alloc (.cells #[.int .i64 c, .string ⟨(aG.line (said ps)).toArray⟩] 51)) G2 w5->
      w5.cell? ⟨tb,0,none⟩=some (.slice oo out.length Qk)∧w5.frozen? ⟨tb,0,none⟩=false∧Goes (uQ tb (out++ [(c,said ps)])) w F (w5.setCell ⟨tb,0,none⟩ (.slice RU (out.length+1) R6))):=fun w3 SG=>by
    have uX:(blk tb (.cells #[.slice oo out.length Qk] 94 (0,0))).holds w3 G1:=Mr.aI bT SG;refine⟨by simp only[World.cell?,uX.1];rfl,dM (Mr.aI hou SG) _,fun RU R6 w5 hg=> ?_⟩;have g1:Goes (aa (rowA 51 2 (.slice RU (out.length+1) R6) (out.length+1) (flat Mr.DV out++ [.int .i64 c, .string ⟨(aG.line (said ps)).toArray⟩])) (blk tb (.cells #[.slice oo out.length Qk] 94 (0,0)))) w3 F w5:=aO uX (dx hg) (fun k hk h=>dd k h hk) (fun k=>(ee k).trans or_comm);have o3:Only F w w3:=(Only.refl F w).below SG;have g2:=(aC o3 (fun k hk=> .inl hk) g1).eq (bq _ _);obtain⟨F5,J2,_⟩:=id g2;obtain⟨cl5,fz5,_⟩:=br J2;refine⟨cl5 0,fz5 0,(g2.store 0 _).mono fun F6 h6=>⟨.slice RU (out.length+1) R6, ?_⟩⟩;have e6:Mr.gZ (.slice RU (out.length+1) R6) (out++ [(c,said ps)])=rowA 51 2 (.slice RU (out.length+1) R6) (out.length+1) (flat Mr.DV out++ [.int .i64 c, .string ⟨(aG.line (said ps)).toArray⟩]):=by unfold Mr.gZ;rw[aH,nC];rfl
    show(aa (blk tb _) (Mr.gZ _ _)).holds _ _;rw[e6];exact h6
   have HB:=hide hB;clear HN pX WH WC bT hou dd ee HH HP HT RG uU hmk hB;generalize ps.length=np at*;generalize uz:said ps=sd at*;generalize BV:aG.line sd=ln at*;go_wp2_with (first
    |(go_at_call 136;go_must(refine HJ.out.mono ?_;rintro e w2⟨rfl,cZ⟩;have Re:=hide (Cm HB.out cZ);clear cZ))
    |(go_at_call 46;go_must(refine(yX.out _).mono ?_;rintro e w3⟨rfl,uX⟩;have SG:=Cm Re.out uX;obtain⟨d1,d2,d3⟩:=kJ.out w3 SG;have jf:=hide d2;have HD3:=hide d3;clear uX SG d2 d3))
    |(at_builtin;go_must(refine aT _ rfl _ _ 32 rfl 51 i1 (.agg #[.int .i64 0, .string ⟨#[]⟩]) 2 24 underlying32 y7 ZP ZQ ZR rfl (by decide) (F:=G2) _ out.length _ rfl jf.out ⟨w3.heap.size,0,none⟩ 1 1 [.int .i64 c, .string ⟨ln.toArray⟩] rfl rfl (World.news_of_block (cs:= #[.int .i64 c, .string ⟨ln.toArray⟩]) (t:=51) (fr:=(0,0)) (heap_alloc_new w3 _)) (by simp[Value.oneCell']) (by unfold maxLen;omega) (by omega) ?_;intro RU R6 w5 bE;obtain⟨d4,d5,d6⟩:=HD3.out RU R6 w5 bE;have HE:=hide d6;clear bE d6)))
   go_end0;exact⟨rfl,by rw[uz];exact HE.out⟩
variable{x:Nat}{g:Gh}{j:Js}{v:Dv}{w:World}{F:Ft}
theorem wJ(h:(aW x g j v).holds w F):(∀k,w.cell? ⟨x,k,none⟩=(yY j v)[k]?)∧(∀k,w.frozen? ⟨x,k,none⟩=false)∧x<w.heap.size:=by have:=br h;exact⟨this.1,this.2.1,(cC.1 this.2.2).1⟩
theorem Wq(h:(aW x g j v).holds w F): ∃G,(iU v.cm j.bu).holds w G:=by
 have e:aW x g j v=aa (iU v.cm j.bu) (aa (dB x j v) (aa (ib g v.rm j.reqs) (aa (gK g v.tm j.aQ) (aa (all gM j.bu) (aa (all (fc g j.c.re) j.reqs) (aa (all (fD g) j.aQ) (aa (dL g v.rv j.ring) (aa (gN v.pv j.pull) (aa (dh g v.lv j.hp) (hpA g j.hp)))))))))):=by unfold aW;ac_rfl
 obtain⟨G,hG,_⟩:=aJ.left (aA h e);exact⟨G,hG⟩
theorem aa7(h:(aW x g j v).holds w F): ∀k∈j.bu,∃kv,w.heap[k.p]?=some (.cells #[kv, .bool k.dr] 107 (0,0)):=by
 have e:aW x g j v=aa (all gM j.bu) (aa (iU v.cm j.bu) (aa (dB x j v) (aa (ib g v.rm j.reqs) (aa (gK g v.tm j.aQ) (aa (all (fc g j.c.re) j.reqs) (aa (all (fD g) j.aQ) (aa (dL g v.rv j.ring) (aa (gN v.pv j.pull) (aa (dh g v.lv j.hp) (hpA g j.hp)))))))))):=by unfold aW;ac_rfl
 obtain⟨G,hG,_⟩:=aJ.left (aA h e);intro k hk;obtain⟨G',kv,mQ⟩:=Mr.vP hG k hk;exact⟨kv,(cK mQ).1⟩
theorem Ob(h:(aW x g j v).holds w F):(∃G,(dh g v.lv j.hp).holds w G)∧ ∀i (hi:i<j.hp.length),w.heap[g.ap (key j.hp[i])]?=some (.cells (mr g j.hp[i] i) 126 (0,0)):=by
 have e:aW x g j v=aa (dh g v.lv j.hp) (aa (hpA g j.hp) (aa (iU v.cm j.bu) (aa (dB x j v) (aa (ib g v.rm j.reqs) (aa (gK g v.tm j.aQ) (aa (all gM j.bu) (aa (all (fc g j.c.re) j.reqs) (aa (all (fD g) j.aQ) (aa (dL g v.rv j.ring) (gN v.pv j.pull)))))))))):=by unfold aW;ac_rfl
 have h2:=aA h e;obtain⟨G,H,h3,h4,_⟩:=h2;refine⟨⟨G,h3⟩,fun i hi=> ?_⟩;have hz:i<j.hp.zipIdx.length:=by simpa using hi
 have h5:=aA h4 (show _=aa (fH g j.hp[i] i) (aa (all (fun x:At×Nat=>fH g x.1 x.2) (j.hp.zipIdx.eraseIdx i)) (aa (iU v.cm j.bu) (aa (dB x j v) (aa (ib g v.rm j.reqs) (aa (gK g v.tm j.aQ) (aa (all gM j.bu) (aa (all (fc g j.c.re) j.reqs) (aa (all (fD g) j.aQ) (aa (dL g v.rv j.ring) (gN v.pv j.pull))))))))))by unfold hpA;rw[AL hz,bA];simp)
 exact(cK h5).1
theorem Ia(w:World):(zeroValue 99).run prog w= .ok (.pointer none) w:=by kernel_rfl
theorem vY(x:Nat)(g:Gh)(j:Js)(c:Int)(w:World)(F:Ft)(h:(jA x g j).holds w F)(hc:(Lit.int .i64 c).wf=true)(hcn:(j.bu.map (·.n)).Nodup):Calls prog 165 #[pt x, .int .i64 c] w fun e w'=>e= .returned (.bool (j.drains c))∧w'=w:=by
 obtain⟨v,h⟩:=h;have c6:w.cell? ⟨x,6,none⟩=some (.map (some v.cm)):=(wJ h).1 6;obtain⟨G,hG⟩:=Wq h;have nH:=kV hG (t:=81) (e:=99) underlying81 (Ia w) c hc;have Ko:(Instr.lookup 81 (.map (some v.cm)) (.int .i64 c) false).run prog w= .ok (pH (j.bu.map fun k=>(k.n,k.p)) c) w:=nH;cases hf:j.bu.find? (·.n==c)with
 |none=>
  have hn:c∉(j.bu.map fun k=>(k.n,k.p)).map (·.1):=by rw[aB];intro hm;obtain⟨k,hk,e⟩:=az.1 hm;exact List.find?_eq_none.1 hf k hk (by simpa using e)
  rw[jx hn]at Ko;have ed:j.drains c=false:=by unfold Js.drains;rw[hf]
  rw[ed];clear nH hG h;unfold pt;go_enter func165,ntmps165;go_wp2;go_ret;exact⟨rfl,rfl⟩
 |some k=>
  have hk:=cI hf;have ek:k.n=c:=by simpa using List.find?_some hf
  have hl:=jy (m:=j.bu.map fun k=>(k.n,k.p)) (by rw[aB];exact hcn) (az.2 ⟨k,hk,rfl⟩);dsimp only at hl;rw[ek]at hl;rw[hl]at Ko;obtain⟨kv,V0⟩:=aa7 h k hk;have c1:w.cell? ⟨k.p,1,none⟩=some (.bool k.dr):=by simp only[World.cell?,V0];rfl
  have ed:j.drains c=k.dr:=by unfold Js.drains;rw[hf]
  rw[ed];clear nH hG h hl V0;unfold pt at*;go_enter func165,ntmps165;go_wp2;go_ret;exact⟨rfl,rfl⟩
theorem jn(c:Int)(w:World):Calls prog 79 #[.int .i64 c] w fun e w'=>e= .returned (.func (.func 124) #[] #[.pointer (some ⟨w.heap.size,0,none⟩)])∧w'=w.alloc (.cells #[.int .i64 c] 3):=by go_enter func79,ntmps79;go_wp2;go_ret;exact⟨rfl,rfl⟩
theorem nE(p bx:Nat)(c d:Int)(w:World)(hp:w.cell? ⟨p,2,none⟩=some (.int .i64 d))(hb:w.cell? ⟨bx,0,none⟩=some (.int .i64 c)):Calls prog 124 #[.pointer (some ⟨p,0,none⟩), .pointer (some ⟨bx,0,none⟩)] w fun e w'=>e= .returned (.bool (d==c))∧ ∃q,w'=w.drewN q:=by
 go_enter func124,ntmps124;go_wp2
 go_quiet (fail)
 go_wp2;go_ret;exact⟨rfl,_,rfl⟩
end Pj
namespace Pj
open Go.RowKit aJ Mc
def I6(c:Int):Prop:=(Lit.int .i64 c).wf=true
def Cw(j:Js):Prop:=(∀a∈j.hp,I6 a.conn)∧ ∀c∈j.pull,I6 c
def gO(j:Js):List (Int×Nat×Bs):=j.bu.map fun k=>(k.n,k.p,k.kept)
def stA(base x tb:Nat)(g:Gh)(cn:List (Int×Nat×Bs))(s:St):aJ where
 holds w F:= ∃j,Rel g j s∧Cw j∧gO j=cn∧(∀k,F k->base<=k)∧(aa (jA x g j) (uQ tb s.out)).holds w F
 lt h:=by obtain⟨j,_,_,_,_,h⟩:=h;exact aJ.lt _ h
 keep h hk:=by obtain⟨j,h1,h2,h3,h4,h⟩:=h;exact⟨j,h1,h2,h3,h4,aJ.keep _ h hk⟩
def Tabs(base:Nat)(w:World):Prop:=base<=w.heap.size∧ ∀w',Below base w w'->Lib.TabIs prog w' "internal/strconv.uint64pow10" .u64 Lib.pow10Tab
section
variable{base:Nat}{w w':World}{F:Ft}{A:aJ}
theorem fY{a b c:World}(h:Below base a b)(h2:Below base b c):Below base a c:=
 ⟨h2.os.trans h.os,h2.tape.trans h.tape,h2.output.trans h.output,ar h.size h2.size,fun k hk=>(h2.block k hk).trans (h.block k hk)⟩
theorem Tabs.below(T:Tabs base w)(h:Below base w w'):Tabs base w':=⟨ar T.1 h.size,fun w2 h2=>T.2 w2 (fY h h2)⟩
theorem Tabs.goes(T:Tabs base w)(hF: ∀k,F k->base<=k)(h:Goes A w F w'):Tabs base w':=by obtain⟨_,_,o,_⟩:=h;exact T.below (o.toBelow hF T.1)
theorem Tabs.only(T:Tabs base w)(hF: ∀k,F k->base<=k)(o:Only F w w'):Tabs base w':=T.below (o.toBelow hF T.1)
theorem Tabs.new(T:Tabs base w)(h:Below w.heap.size w w'):Tabs base w':=T.below (h.mono T.1)
theorem Tabs.tab(T:Tabs base w): ∀w',Below w.heap.size w w'->Lib.TabIs prog w' "internal/strconv.uint64pow10" .u64 Lib.pow10Tab:=fun w' h=>T.2 w' (h.mono T.1)
end
section
variable{base x tb:Nat}{g:Gh}{cn:List (Int×Nat×Bs)}{s:St}{j:Js}{w w':World}{F:Ft}
theorem cB(h:(stA base x tb g cn s).holds w F): ∀k,F k->base<=k:=by obtain⟨_,_,_,_,h,_⟩:=h;exact h
theorem gj{j':Js}{s':St}(T:Tabs base w)(hF: ∀k,F k->base<=k)(h1:Rel g j' s')(h2:Cw j')(h3:gO j'=cn)(h:Goes (aa (jA x g j') (uQ tb s'.out)) w F w'):Goes (stA base x tb g cn s') w F w':=by
 obtain⟨F',h',o,n⟩:=h;refine⟨F',⟨j',h1,h2,h3,fun k hk=> ?_,h'⟩,o,n⟩;rcases n k hk with e|e
 ·exact hF k e
 ·exact ar T.1 e
theorem dJ(h:Rel g j s)(hi:Inv s)(hz:s.sz<=16777000):Wf j:=by
 have hz':=hz;unfold St.sz at hz';have aaP: ∀t,∀i∈s.aS t,∃l∈s.ring,i∈l.ids:=fun t i hm=>by
  unfold St.aS at hm;split at hm
  ·rename_i l hl;exact⟨l,cI hl,hm⟩
  ·cases hm
 have nJ:=St.D5 hi;have Rp:j.reqs.length=s.reqs.length:=by rw[<-h.reqs,aF]
 have jq:(j.reqs.map fun r=>r.q.id)=s.reqs.map (·.id):=by rw[<-h.reqs,aB];rfl
 have uw:s.ks.map (·.1)=s.reqs.map (·.id):=by unfold St.ks;rw[aB];rfl
 have hkt: ∀i t,(i,t)∈s.ks->i∈j.reqs.map fun r=>r.q.id:=fun i t hm=>by rw[jq,<-uw];exact az.2 ⟨_,hm,rfl⟩
 refine⟨by rw[jq,<-uw];exact hi.rid,h.nX,fun t ht i hm=> ?_,fun n hm=> ?_,fun r hr=> ?_,fun t ht=> ?_, ?_, ?_, ?_,fun t ht=> ?_, ?_, ?_, ?_,fun r hr=> ?_⟩
 ·rw[h.wt t ht]at hm;obtain⟨l,hl,BS⟩:=aaP _ i hm;exact hkt i _ ((hi.ring l hl).2 i BS)
 ·rw[h.ring]at hm;obtain⟨l,hl,rfl⟩:=az.1 hm;obtain⟨h1,h2⟩:=hi.ring l hl;obtain⟨i,zu⟩:=List.exists_mem_of_ne_nil _ h1;have:=h2 i zu;unfold St.ks at this;obtain⟨r,hr,e⟩:=az.1 this;have e2:r.ten=l.ten:=congrArg Prod.snd e;rw[<-e2];exact h.ten r hr
 ·exact h.ten r.q (by rw[<-h.reqs];exact az.2 ⟨r,hr,rfl⟩)
 ·rw[h.wt t ht];unfold St.aS;split
  ·rename_i l hl;have:=St.I3 hi (cI hl);omega
  ·simp
 ·rw[h.ring,aF];omega
 ·rw[h.pull];omega
 ·rw[h.hp.length_eq];omega
 ·rw[h.rn t ht];have:s.runs t.nm<=s.ah.length:=List.countP_le_length;omega
 ·omega
 ·have:=h.Z7;omega
 ·have:=h.cons;omega
 ·rw[h.al r hr];unfold St.nums;rw[aF];have:=List.length_filter_le (fun a:At=>a.id==r.q.id) s.ah;omega
end
theorem Part.tO{b:Bs}(h:b.length<=64):(Part.s b).ok:=h
theorem Part.Bz{x:Int}(h:0<=x∧x<=9223372036854775807):(Part.n x).ok:=h
theorem Dj: ∀(l:List Bs) (n:Nat),(∀b∈l,b.length<=n)->(Lib.join l [32]).length<=l.length*(n+1)
 | [],n,_=>by simp[Lib.join]
 | [b],n,h=>by have:=h b (by simp);simp[Lib.join];omega
 |b::b'::l,n,h=>by
  have h1:=Dj (b'::l) n (fun y hy=>h y (aV _ hy));have h2:=h b (by simp);have e:Lib.join (b::b'::l) [32]=b++ [32]++Lib.join (b'::l) [32]:=by simp[Lib.join]
  rw[e];simp only[aH,List.length_cons,List.length_nil]at h1⊢;have h3:(l.length+1+1)*(n+1)=(l.length+1)*(n+1)+(n+1):=Nat.succ_mul _ _;omega
theorem rz: ∀(f n:Nat),(kP f n).length<=f
 |0,_=>by simp[kP]
 |f+1,n=>by
  unfold kP;split
  ·simp
  ·have:=rz f (n/10);simp;omega
theorem Part.len{p:Part}(h:p.ok):p.txt.length<=64:=by
 cases p with
 |s b=>exact h
 |n x=>have:=rz 20 x.toNat;show(bZ x).length<=64;unfold bZ;omega
theorem BF{base x tb:Nat}{g:Gh}{cn:List (Int×Nat×Bs)}{s:St}{w:World}{F:Ft}(T:Tabs base w)(h:(stA base x tb g cn s).holds w F)(hz:s.sz<=16777000)(c:Int)(ps:List Part)(t:Bs)(ht:said ps=t)(ZC:0<ps.length)(hn:ps.length<=16)(BZ: ∀p∈ps,p.ok): ∀w1,Below w.heap.size w w1->Calls prog 89 #[pt tb, .int .i64 c, .slice (some ⟨w1.heap.size,0,none⟩) ps.length ps.length] (w1.alloc (.cells (ps.map Part.val).toArray 20)) fun e w'=>e= .returned (.tuple #[])∧Goes (stA base x tb g cn (s.say c t)) w F w':=fun w1 hB=>by
 obtain⟨j,r1,r2,r3,hF,hh⟩:=h;have hh1:=dM (Mr.aI hh hB) (.cells (ps.map Part.val).toArray 20);have T1:Tabs base (w1.alloc (.cells (ps.map Part.val).toArray 20)):=(T.new hB).new ((au _ _).alloc (af _) _);have bT:Only F w (w1.alloc (.cells (ps.map Part.val).toArray 20)):=((Only.refl F w).below hB).alloc _;obtain⟨G,H,ha,hb,d,e⟩:=id (aA hh1 (bq _ _));have Gz:s.out.length<=134217728:=by unfold St.sz at hz;omega
 have hlen:(said ps).length<=1048576:=by
  have:=Dj (ps.map Part.txt) 64 (fun b hb=>by obtain⟨p,hp,rfl⟩:=az.1 hb;exact Part.len (BZ p hp))
  rw[aF]at this;unfold said;omega
 refine(nU tb c ps w1.heap.size 0 ps.length s.out _ G ha (fun k p hp=> ?_) ZC hn (by simp) BZ hlen Gz T1.tab).mono ?_
 ·have vv:=heap_alloc_new w1 (.cells (ps.map Part.val).toArray 20);simp only[World.cell?,vv,Nat.zero_add];simp[hp]
 ·rintro e' w'⟨rfl,hg⟩;refine⟨rfl, ?_⟩;have g1:=aO hb hg d e;rw[ht]at g1;have g2:=aC bT (fun k hk=> .inl hk) (g1.eq (bq _ _));exact gj T hF (r1.say c t) r2 r3 g2
end Pj
namespace Pj
open Go.RowKit aJ Mc
attribute [local go_sem] ae ag
variable{s:St}{w:World}{base x tb:Nat}{g:Gh}{cn:List (Int×Nat×Bs)}{F:Ft}
theorem JW{hp:List At}(h:hp.Perm s.ah)(c:Int):(hp.find? fun a=>a.conn==c)=none↔s.held c=0:=by unfold St.held;rw[<-h.countP_eq,List.countP_eq_zero,List.find?_eq_none]
theorem bN{w1:World}{b k:Nat}(h:Below w.heap.size w w1)(hb:b<w.heap.size):w1.cell? ⟨b,k,none⟩=w.cell? ⟨b,k,none⟩:=h.cell (p:=⟨b,k,none⟩) hb
theorem s8{B:Nat}{a b:World}(h:Below B a b)(n:Nat):Below B a (b.drewN n):=⟨h.os,h.tape,h.output,h.size,h.block⟩
theorem BH{s1 s2:St}{w':World}(h:Goes (stA base x tb g cn s1) w F w')(e:s2.out=s1.out)(hr: ∀j,Rel g j s1->Rel g j s2):Goes (stA base x tb g cn s2) w F w':=by refine h.mono fun F' h'=> ?_;obtain⟨j,h1,h2,h3,h4,h5⟩:=h';exact⟨j,hr j h1,h2,h3,h4,by rw[e];exact h5⟩
theorem Ii(T:Tabs base w)(h:(stA base x tb g cn s).holds w F)(hi:Inv s)(hz:s.sz<=16777000)(c:Int)(hc:I6 c)(IP:s.drains c=true->s.held c=0->(s.aq.any fun x=>x.n==c &&x.drains && !x.gone)=true)(NF:(s.aq.any fun x=>x.n==c &&x.drains && !x.gone)=true->s.drains c=true):Calls prog 127 #[pt x,pt tb, .int .i64 c] w fun e w'=>e= .returned (.tuple #[])∧Goes (stA base x tb g cn (s.fp c)) w F w':=by
 have j8:=hide (BF T h hz c [.s [98,121,101]] [98,121,101] rfl (by simp) (by simp) (by intro p hp;simp at hp;rw[hp];exact Part.tO (by decide)));obtain⟨j,r1,r2,r3,hF,hh⟩:=id h;obtain⟨G,H,hj,GI,_,_⟩:=id hh;have wf:=dJ r1 hi hz;have EN:Hid (∀w1,Below w.heap.size w w1->Calls prog 165 #[pt x, .int .i64 c] w1 fun e w'=>e= .returned (.bool (s.drains c))∧w'=w1):=fun w1 hB=>by have:=vY x g j c w1 G (Mr.aI hj hB) hc r1.cnd;rwa[r1.dr c]at this
 obtain⟨v,hv⟩:=id hj;have c11:w.cell? ⟨x,11,none⟩=some v.lv:=(wJ hv).1 11;have uA:x<w.heap.size:=(wJ hv).2.2;obtain⟨⟨Gl,vu⟩,mN⟩:=Ob hv;obtain⟨ao,cap,JO⟩:=aR (Goes.refl vu);rw[JO]at c11 vu;have HC:Hid (∀w1,Below w.heap.size w w1->w1.cell? ⟨x,11,none⟩=some (.slice ao j.hp.length cap)):=fun w1 hB=>by rw[bN hB uA];exact c11
 have yZ:=wf.b4;have B7:Hid (∀w1,Below w.heap.size w w1->Calls prog 166 #[.slice ao j.hp.length cap, .func (.func 124) #[] #[.pointer (some ⟨w1.heap.size,0,none⟩)]] (w1.alloc (.cells #[.int .i64 c] 3)) fun e w'=>e= .returned (ep ((j.hp.find? fun a=>a.conn==c).map fun a=>g.ap (key a)))∧Below w.heap.size w w'):=fun w1 hB=>by
  have pD:Below w.heap.size w (w1.alloc (.cells #[.int .i64 c] 3)):=hB.alloc hB.size _;refine(fiA _ j.hp (fun a=>g.ap (key a)) (fun a=>a.conn==c) 124 #[.pointer (some ⟨w1.heap.size,0,none⟩)] (enters_of func124 (by kernel_rfl) rfl) _ Gl (Mr.aI vu pD) (fun wr hr y hy=> ?_) (by omega)).mono ?_
  ·obtain⟨i,BS,rfl⟩:=List.mem_iff_getElem.1 hy;have ha:=mN i BS;have aN:g.ap (key j.hp[i])<w.heap.size:=(cC.1 ha).1;have jJ:=hB.size;have LV:=pD.size;refine nE (g.ap (key j.hp[i])) w1.heap.size c j.hp[i].conn wr ?_ ?_
   ·rw[hr.cell (p:=⟨_,2,none⟩) (bD aN LV),pD.cell (p:=⟨_,2,none⟩) aN];simp only[World.cell?,ha];rfl
   ·rw[hr.cell (p:=⟨w1.heap.size,0,none⟩) (by simp)];simp only[World.cell?,heap_alloc_new];rfl
  ·rintro e w'⟨rfl,q,rfl⟩;exact⟨rfl,s8 pD q⟩
 have hfh:=JW (s:=s) r1.hp c;have AD:Hid (∀w1,Below w.heap.size w w1->Goes (stA base x tb g cn s) w F w1):=fun w1 hB=>(Goes.refl h).below hB;clear h hh hj GI hv mN vu wf JO;unfold pt at*;cases hd:s.drains c with
 |false=>
  have Vz:s.fp c=s:=by unfold St.fp;rw[if_neg];intro e;simp only[bm]at e;have:=NF e.1;rw[hd]at this;cases this
  rw[Vz];rw[hd]at EN;clear j8 B7 HC IP NF;go_enter func127,ntmps127;go_wp2_with fail;refine wp_region_noPanic ?_;refine wp_region_held_drew (S:=fun _=>True) (by kernel_rfl) trivial (fun HSD=> ?_);refine tkZ (i:=0) (oi:=⟨some 6, .move (.tmp 0),40, "leave.go:21", #[],none⟩) rfl HSD ?_
  try simp only[Act.put,sT,s0,s1]
  refine tkZ (i:=1) (oi:=⟨some 7, .move (.tmp 2),3, "leave.go:21", #[],none⟩) rfl HSD ?_
  try simp only[Act.put,sT,s0,s1]
  refine wpAnyH_ready (rs:= [2]) (by kernel_rfl) (by simp) ?_;refine AllReadyH.cons rfl (fun K hK=> ?_) AllReadyH.nil;go_simp;refine(EN.out _ (au _ _).drew).mono ?_;rintro e w5⟨rfl,rfl⟩;go_simp;refine hK.out _ _ trivial (fun yX=> ?_);clear hK K;refine tkZ (i:=3) (oi:=⟨some 9, .move (.tmp 8),4, "leave.go:21", #[⟨2, .data⟩,⟨2, .chain⟩],none⟩) rfl yX ?_
  try simp only[Act.put,sT,s0,s1]
  refine UY (i:=4) (oi:=⟨some 10, .move (.tmp 0),40, "leave.go:21", #[⟨3, .guard⟩],some (3,true)⟩) (v:=undef) rfl (Or.inr ⟨by rfl,rfl⟩) yX ?_
  try simp only[Act.put,sT,s0,s1]
  refine UY (i:=5) (oi:=⟨some 11, .nilCheck (.tmp 10),0, "leave.go:21", #[⟨4, .data⟩,⟨3, .guard⟩],some (3,true)⟩) (v:=undef) rfl (Or.inr ⟨by rfl,rfl⟩) yX ?_
  try simp only[Act.put,sT,s0,s1]
  refine UY (i:=6) (oi:=⟨some 12, .fieldAddr 88 (.tmp 11) 7,0, "leave.go:21", #[⟨5, .data⟩,⟨3, .guard⟩],some (3,true)⟩) (v:=undef) rfl (Or.inr ⟨by rfl,rfl⟩) yX ?_
  try simp only[Act.put,sT,s0,s1]
  refine UY (i:=7) (oi:=⟨some 13, .load 86 (.tmp 12),86, "leave.go:21", #[⟨6, .data⟩,⟨3, .guard⟩],some (3,true)⟩) (v:=undef) rfl (Or.inr ⟨by rfl,rfl⟩) yX ?_
  try simp only[Act.put,sT,s0,s1]
  refine UY (i:=8) (oi:=⟨some 14, .move (.tmp 2),3, "leave.go:21", #[⟨3, .guard⟩],some (3,true)⟩) (v:=undef) rfl (Or.inr ⟨by rfl,rfl⟩) yX ?_
  try simp only[Act.put,sT,s0,s1]
  refine UY (i:=9) (oi:=⟨some 15, .call {callee:= .value (.func 79),args:= #[.tmp 14],argTypes:= #[3]},133, "leave.go:21", #[⟨8, .data⟩,⟨3, .chain⟩,⟨3, .guard⟩],some (3,true)⟩) (v:=undef) rfl (Or.inr ⟨by rfl,rfl⟩) yX ?_
  try simp only[Act.put,sT,s0,s1]
  refine UY (i:=10) (oi:=⟨some 16, .call {callee:= .value (.func 166),args:= #[.tmp 13, .tmp 15],argTypes:= #[85,133]},127, "leave.go:21", #[⟨7, .data⟩,⟨9, .data⟩,⟨9, .chain⟩,⟨3, .guard⟩],some (3,true)⟩) (v:=undef) rfl (Or.inr ⟨by rfl,rfl⟩) yX ?_
  try simp only[Act.put,sT,s0,s1]
  refine UY (i:=11) (oi:=⟨some 17, .binOp .eql 127 (.tmp 16) (.const (.pointer none)) 127,4, "leave.go:21", #[⟨10, .data⟩,⟨3, .guard⟩],some (3,true)⟩) (v:=undef) rfl (Or.inr ⟨by rfl,rfl⟩) yX ?_
  try simp only[Act.put,sT,s0,s1]
  refine tkZ (i:=12) (oi:=⟨some 18, .pick (.tmp 9) (.tmp 17) (.const (.bool false)),4, "leave.go:21", #[⟨3, .data⟩,⟨11, .data⟩],none⟩) rfl yX ?_
  try simp only[Act.put,sT,s0,s1]
  refine wpAnyH_done (by kernel_rfl) (NoPanic.normal ?_) _;clear yX HSD;go_wp2;go_end0;exact⟨rfl,AD.out _ (au _ _).drew⟩
 |true=>
  rw[hd]at EN;cases hf:(j.hp.find? fun a=>a.conn==c)with
  |some a=>
   have hn:s.held c≠0:=fun e=>by rw[hfh.2 e]at hf;cases hf
   have Vz:s.fp c=s:=by unfold St.fp;rw[if_neg];intro e;simp only[bm,beq_iff_eq]at e;exact hn e.2
   rw[Vz];rw[hf]at B7;change Hid (∀w1,Below w.heap.size w w1->Calls prog 166 _ _ fun e w'=>e= .returned (.pointer (some ⟨g.ap (key a),0,none⟩))∧Below w.heap.size w w')at B7;clear j8 IP NF hfh;generalize g.ap (key a)=pa at*;generalize j.hp.length=nl at*;go_enter func127,ntmps127;go_wp2_with fail;go_region_held3 (fun w'=>w'.cell? ⟨x,11,none⟩=some (.slice ao nl cap)) (go_keep)
    (first
     |(go_at_call 165;go_must(refine(EN.out _ (au _ _).drew).mono ?_;rintro e w5⟨rfl,rfl⟩;have q1:=HC.out _ (au w.heap.size w).drew))
     |(go_at_call 79;go_must(refine(jn c _).mono ?_;rintro e w6⟨rfl,rfl⟩;have q2:=HC.out _ ((au w.heap.size w).drew.alloc (af _) (.cells #[.int .i64 c] 3))))
     |(go_at_call 166;go_must(refine(B7.out _ (au _ _).drew).mono ?_;rintro e w7⟨rfl,J7⟩;have q3:=HC.out _ J7)))
   all_goals have HB7:=AD.out _ J7;clear J7;go_wp2;go_end0;exact⟨rfl,HB7⟩
  |none=>
   have hn:=hfh.1 hf;have L4:Hid (∀w',Goes (stA base x tb g cn (s.say c [98,121,101])) w F w'->Goes (stA base x tb g cn (s.fp c)) w F w'):=fun w' hg=>by
    refine BH hg ?_ (fun j' hr=>(hr.out s.out).fp c);unfold St.fp;rw[if_pos]
    ·rfl
    ·simp only[bm,beq_iff_eq];exact⟨IP hd hn,hn⟩
   rw[hf]at B7;change Hid (∀w1,Below w.heap.size w w1->Calls prog 166 _ _ fun e w'=>e= .returned (.pointer none)∧Below w.heap.size w w')at B7;clear IP NF hfh;generalize j.hp.length=nl at*;go_enter func127,ntmps127;go_wp2_with fail;go_region_held3 (fun w'=>w'.cell? ⟨x,11,none⟩=some (.slice ao nl cap)) (go_keep)
    (first
     |(go_at_call 165;go_must(refine(EN.out _ (au _ _).drew).mono ?_;rintro e w5⟨rfl,rfl⟩;have q1:=HC.out _ (au w.heap.size w).drew))
     |(go_at_call 79;go_must(refine(jn c _).mono ?_;rintro e w6⟨rfl,rfl⟩;have q2:=HC.out _ ((au w.heap.size w).drew.alloc (af _) (.cells #[.int .i64 c] 3))))
     |(go_at_call 166;go_must(refine(B7.out _ (au _ _).drew).mono ?_;rintro e w7⟨rfl,J7⟩;have q3:=HC.out _ J7)))
   all_goals
    have HS7:=hide (j8.out _ J7);clear J7;go_wp2_with (first
     |(go_at_call 89;go_must(refine HS7.out.mono ?_;rintro e w8⟨rfl,Zo⟩;have HG8:=hide Zo;clear Zo)))
    go_end0;exact⟨rfl,L4.out _ HG8.out⟩
end Pj
namespace Pj
open Go.RowKit aJ Mc
def jQ(g:Gh)(j:Js)(v:Dv)(r:Rr)(t:Tr):aJ:=
 aa (iU v.cm j.bu) (aa (ib g v.rm j.reqs) (aa (gK g v.tm j.aQ) (aa (all gM j.bu) (aa (all (fc g j.c.re) (j.reqs.filter fun y=>decide (y.q.id≠r.q.id))) (aa (all (fD g) (j.aQ.filter fun y=>decide (y.nm≠t.nm))) (gN v.pv j.pull))))))
def jW(x:Nat)(g:Gh)(j:Js)(v:Dv)(q:Rq)(al:List Int)(t:Tr)(av wv:Value)(Q:aJ):aJ:=
 aa (dB x j v) (aa (dL g v.rv j.ring) (aa (dh g v.lv j.hp) (aa (hpA g j.hp) (aa (kd g j.c.re q av) (aa (jh g av q.id al) (aa (kC g t wv) (aa (jH g wv t.wt) Q)))))))
def Js.at2(j:Js)(id:Int)(nm:Bs)(q:Rq)(al:List Int)(t:Tr):Js:=
 {j with reqs:=upd (fun r:Rr=>r.q.id) id (fun _=>⟨q,al⟩) j.reqs,aQ:=upd (fun t:Tr=>t.nm) nm (fun _=>t) j.aQ}
theorem jd{α κ:Type} [DecidableEq κ]{k:α->κ}{l:List α}(hn:(l.map k).Nodup){y:α}(hy:y∈l)(f:α->α):upd k (k y) f l=upd k (k y) (fun _=>f y) l:=by
 unfold upd;refine bz fun z hz=> ?_;split
 ·rename_i e;rw[bC (k:=k) hn hz hy e]
 ·rfl
section
variable{x:Nat}{g:Gh}{j:Js}{v:Dv}{r:Rr}{t:Tr}{q:Rq}{al:List Int}{av wv:Value}{B Q:aJ}{w w':World}{F:Ft}
theorem Qp(h1:(j.reqs.map fun r=>r.q.id).Nodup)(h2:(j.aQ.map (·.nm)).Nodup)(hr:r∈j.reqs)(ht:t∈j.aQ):aa (aW x g j v) B=ex fun av=>ex fun wv=>jW x g j v r.q r.al t av wv (aa (jQ g j v r t) B):=by
 have e1:aW x g j v=aa (dB x j v) (aa (dL g v.rv j.ring) (aa (dh g v.lv j.hp) (aa (hpA g j.hp) (aa (fc g j.c.re r) (aa (fD g t) (jQ g j v r t)))))):=by
  unfold aW jQ;rw[ki (A:=fc g j.c.re) (k:=fun r:Rr=>r.q.id) h1 hr,ki (A:=fD g) (k:=fun t:Tr=>t.nm) h2 ht]
  ac_rfl
 have e2:aa (dB x j v) (aa (dL g v.rv j.ring) (aa (dh g v.lv j.hp) (aa (hpA g j.hp) (aa (fc g j.c.re r) (aa (fD g t) (jQ g j v r t))))))=aa (fc g j.c.re r) (aa (fD g t) (aa (dB x j v) (aa (dL g v.rv j.ring) (aa (dh g v.lv j.hp) (aa (hpA g j.hp) (jQ g j v r t)))))):=by ac_rfl
 rw[e1,e2,bA,bA];unfold fc fD;rw[bH];congr 1;funext av;rw[bH,fU];congr 1;funext wv;unfold jW
 ac_rfl
theorem mj(h:(aa (jA x g j) B).holds w F)(wf:Wf j)(hr:r∈j.reqs)(ht:t∈j.aQ): ∃v av wv,(aa (aW x g j v) B).holds w F∧(jW x g j v r.q r.al t av wv (aa (jQ g j v r t) B)).holds w F:=by unfold jA at h;rw[bH]at h;obtain⟨v,h⟩:=h;obtain⟨av,wv,h2⟩:=aA h (Qp wf.rid wf.nX hr ht);exact⟨v,av,wv,h,h2⟩
theorem w_shut(j':Js)(v':Dv){t':Tr}(wf:Wf j)(hr:r∈j.reqs)(ht:t∈j.aQ)(eq:q.id=r.q.id)(et:t'.nm=t.nm)(e1:j'.c=j.c)(e2:j'.bu=j.bu)(e3:j'.reqs=j.reqs)(e4:j'.aQ=j.aQ)(e5:j'.pull=j.pull)(e6:v'.cm=v.cm)(e7:v'.rm=v.rm)(e8:v'.tm=v.tm)(e9:v'.pv=v.pv)(h:Goes (jW x g j' v' q al t' av wv (aa (jQ g j v r t) B)) w F w'):Goes (aa (jA x g (j'.at2 r.q.id t.nm q al t')) B) w F w':=by
 refine h.mono fun F' h'=> ?_;unfold jA;rw[bH];refine⟨v', ?_⟩;have rL:(⟨q,al⟩:Rr)∈(j'.at2 r.q.id t.nm q al t').reqs:=by show _∈upd _ _ _ _;rw[e3];exact BJ (f:=fun _=>(⟨q,al⟩:Rr)) hr rfl
 have C9:t'∈(j'.at2 r.q.id t.nm q al t').aQ:=by show _∈upd _ _ _ _;rw[e4];exact BJ (f:=fun _=>t') ht rfl
 have m1:(j'.at2 r.q.id t.nm q al t').reqs.map (fun r=>r.q.id)=j.reqs.map fun r=>r.q.id:=by show(upd _ _ _ j'.reqs).map _=_;rw[e3];exact fR _ (fun y _ ey=>eq.trans ey.symm)
 have m2:(j'.at2 r.q.id t.nm q al t').aQ.map (·.nm)=j.aQ.map (·.nm):=by show(upd _ _ _ j'.aQ).map _=_;rw[e4];exact fR _ (fun y _ ey=>et.trans ey.symm)
 show(aa (aW x g (j'.at2 r.q.id t.nm q al t') v') B).holds w' F';rw[Qp (r:=⟨q,al⟩) (t:=t') (by rw[m1];exact wf.rid) (by rw[m2];exact wf.nX) rL C9];refine⟨av,wv,aA h' ?_⟩;have f1:(j'.at2 r.q.id t.nm q al t').reqs.filter (fun y=>decide (y.q.id≠q.id))=j.reqs.filter fun y=>decide (y.q.id≠r.q.id):=by
  show(upd _ _ _ j'.reqs).filter _=_;rw[e3,eq];unfold upd;rw[List.filter_map];have: ∀l:List Rr,(l.filter ((fun y=>decide (y.q.id≠r.q.id))∘fun z=>if z.q.id=r.q.id then⟨q,al⟩else z)).map (fun z=>if z.q.id=r.q.id then⟨q,al⟩else z)=l.filter fun y=>decide (y.q.id≠r.q.id):=by
   intro l
   induction l with
   |nil=>rfl
   |cons z l ih=>
    by_cases ez:z.q.id=r.q.id
    ·rw[List.filter_cons_of_neg (by simp[ez,eq]),List.filter_cons_of_neg (by simp[ez]),ih]
    ·rw[List.filter_cons_of_pos (by simp[ez]),List.filter_cons_of_pos (by simp[ez]),List.map_cons,if_neg ez,ih]
  exact this _
 have f2:(j'.at2 r.q.id t.nm q al t').aQ.filter (fun y=>decide (y.nm≠t'.nm))=j.aQ.filter fun y=>decide (y.nm≠t.nm):=by
  show(upd _ _ _ j'.aQ).filter _=_;rw[e4,et];unfold upd;rw[List.filter_map];have: ∀l:List Tr,(l.filter ((fun y=>decide (y.nm≠t.nm))∘fun z=>if z.nm=t.nm then t' else z)).map (fun z=>if z.nm=t.nm then t' else z)=l.filter fun y=>decide (y.nm≠t.nm):=by
   intro l
   induction l with
   |nil=>rfl
   |cons z l ih=>
    by_cases ez:z.nm=t.nm
    ·rw[List.filter_cons_of_neg (by simp[ez,et]),List.filter_cons_of_neg (by simp[ez]),ih]
    ·rw[List.filter_cons_of_pos (by simp[ez]),List.filter_cons_of_pos (by simp[ez]),List.map_cons,if_neg ez,ih]
  exact this _
 have g1:ib g v'.rm (j'.at2 r.q.id t.nm q al t').reqs=ib g v.rm j.reqs:=by
  unfold ib;rw[e7];congr 1;have: ∀l:List Rr,l.map (fun r=>(r.q.id,g.rp r.q.id))=(l.map fun r=>r.q.id).map fun i=>(i,g.rp i):=fun l=>by rw[aB];rfl
  rw[this,m1,<-this]
 have g2:gK g v'.tm (j'.at2 r.q.id t.nm q al t').aQ=gK g v.tm j.aQ:=by
  unfold gK;rw[e8];congr 1;have: ∀l:List Tr,l.map (fun t=>(t.nm,g.tp t.nm))=(l.map fun t=>t.nm).map fun i=>(i,g.tp i):=fun l=>by rw[aB];rfl
  rw[this,m2,<-this]
 have g3:jQ g (j'.at2 r.q.id t.nm q al t') v' ⟨q,al⟩ t'=jQ g j v r t:=by unfold jQ;rw[g1,g2];dsimp only;rw[f1,f2];show aa (iU v'.cm j'.bu) (aa _ (aa _ (aa (all gM j'.bu) (aa (all (fc g j'.c.re) _) (aa _ (gN v'.pv j'.pull))))))=_;rw[e1,e2,e5,e6,e9]
 rw[g3];rfl
theorem W7(h:(jW x g j v q al t av wv Q).holds w F):(∀k,w.cell? ⟨x,k,none⟩=(yY j v)[k]?)∧(∀k,w.frozen? ⟨x,k,none⟩=false)∧kg w x:=by have:=br h;exact⟨this.1,this.2.1,_,_,this.2.2⟩
theorem Rw(h:(jW x g j v q al t av wv Q).holds w F):(∀k,w.cell? ⟨g.rp q.id,k,none⟩=(ot g j.c.re q av)[k]?)∧(∀k,w.frozen? ⟨g.rp q.id,k,none⟩=false)∧kg w (g.rp q.id):=by have:=br (aA h (show _=aa (kd g j.c.re q av) (aa (dB x j v) (aa (dL g v.rv j.ring) (aa (dh g v.lv j.hp) (aa (hpA g j.hp) (aa (jh g av q.id al) (aa (kC g t wv) (aa (jH g wv t.wt) Q)))))))by unfold jW;ac_rfl));exact⟨this.1,this.2.1,_,_,this.2.2⟩
theorem XY(h:(jW x g j v q al t av wv Q).holds w F):(∀k,w.cell? ⟨g.tp t.nm,k,none⟩=(Hw t wv)[k]?)∧(∀k,w.frozen? ⟨g.tp t.nm,k,none⟩=false)∧kg w (g.tp t.nm):=by have:=br (aA h (show _=aa (kC g t wv) (aa (dB x j v) (aa (dL g v.rv j.ring) (aa (dh g v.lv j.hp) (aa (hpA g j.hp) (aa (kd g j.c.re q av) (aa (jh g av q.id al) (aa (jH g wv t.wt) Q)))))))by unfold jW;ac_rfl));exact⟨this.1,this.2.1,_,_,this.2.2⟩
theorem Q9(h:Goes (jW x g j v q al t av wv Q) w F w')(k:Nat)(u:Value)(q':Rq)(e:(ot g j.c.re q av).setIfInBounds k u=ot g j.c.re q' av)(ei:q'.id=q.id):Goes (jW x g j v q' al t av wv Q) w F (w'.setCell ⟨g.rp q.id,k,none⟩ u):=by
 have h2:=h.eq (show _=aa (blk (g.rp q.id) (.cells (ot g j.c.re q av) 132 (0,0))) (aa (dB x j v) (aa (dL g v.rv j.ring) (aa (dh g v.lv j.hp) (aa (hpA g j.hp) (aa (jh g av q.id al) (aa (kC g t wv) (aa (jH g wv t.wt) Q)))))))by unfold jW kd;ac_rfl);refine(h2.store k u).eq ?_;rw[e,<-ei];unfold jW kd;rw[ei]
 ac_rfl
theorem Ra(h:Goes (jW x g j v q al t av wv Q) w F w')(rn:Int):Goes (jW x g j v q al {t with rn:=rn} av wv Q) w F (w'.setCell ⟨g.tp t.nm,2,none⟩ (.int .i64 rn)):=by
 have h2:=h.eq (show _=aa (blk (g.tp t.nm) (.cells (Hw t wv) 92 (0,0))) (aa (dB x j v) (aa (dL g v.rv j.ring) (aa (dh g v.lv j.hp) (aa (hpA g j.hp) (aa (kd g j.c.re q av) (aa (jh g av q.id al) (aa (jH g wv t.wt) Q)))))))by unfold jW kC;ac_rfl);refine(h2.store 2 (.int .i64 rn)).eq ?_;show aa (kC g {t with rn:=rn} wv) _=_;unfold jW
 ac_rfl
theorem TZ(h:Goes (jW x g j v q al t av wv Q) w F w')(b:Nat):Goes (jW x g {j with begun:=b} v q al t av wv Q) w F (w'.setCell ⟨x,12,none⟩ (.int .i64 b)):=by have h2:=h.eq (show _=aa (blk x (.cells (yY j v) 88 (0,0))) (aa (dL g v.rv j.ring) (aa (dh g v.lv j.hp) (aa (hpA g j.hp) (aa (kd g j.c.re q av) (aa (jh g av q.id al) (aa (kC g t wv) (aa (jH g wv t.wt) Q)))))))by unfold jW dB;rfl);exact h2.store 12 (.int .i64 b)
theorem Q8(h:(jW x g j v q al t av wv Q).holds w F): ∃G,(jh g av q.id al).holds w G∧ ∀Xk Ih w2,Goes (jh g Ih q.id Xk) w G w2->w2.cell? ⟨g.rp q.id,7,none⟩=some av∧w2.frozen? ⟨g.rp q.id,7,none⟩=false∧Goes (jW x g j v q Xk t Ih wv Q) w F (w2.setCell ⟨g.rp q.id,7,none⟩ Ih):=by
 have h2:=aA h (show _=aa (jh g av q.id al) (aa (kd g j.c.re q av) (aa (dB x j v) (aa (dL g v.rv j.ring) (aa (dh g v.lv j.hp) (aa (hpA g j.hp) (aa (kC g t wv) (aa (jH g wv t.wt) Q)))))))by unfold jW;ac_rfl);obtain⟨G,H,ha,hb,d,e⟩:=h2;refine⟨G,ha,fun Xk Ih w2 hg=> ?_⟩;have g1:=aO hb hg d e;have g2:=g1.eq (show _=aa (blk (g.rp q.id) (.cells (ot g j.c.re q av) 132 (0,0))) (aa (jh g Ih q.id Xk) (aa (dB x j v) (aa (dL g v.rv j.ring) (aa (dh g v.lv j.hp) (aa (hpA g j.hp) (aa (kC g t wv) (aa (jH g wv t.wt) Q)))))))by unfold kd;ac_rfl);obtain⟨F2,gV,_⟩:=id g2;obtain⟨cl,fz,_⟩:=br gV;refine⟨cl 7,fz 7,(g2.store 7 Ih).eq ?_⟩;show aa (kd g j.c.re q Ih) _=_;unfold jW
 ac_rfl
theorem abm(h:(jW x g j v q al t av wv Q).holds w F): ∃G,(fA x (yY j v) g v.lv j.hp).holds w G∧ ∀ba kt R w2,Goes (aa (fA x ((yY j v).setIfInBounds 11 kt) g kt ba) R) w G w2->Goes (jW x g {j with hp:=ba} {v with lv:=kt} q al t av wv (aa Q R)) w F w2:=by
 have h2:=aA h (show _=aa (fA x (yY j v) g v.lv j.hp) (aa (dL g v.rv j.ring) (aa (kd g j.c.re q av) (aa (jh g av q.id al) (aa (kC g t wv) (aa (jH g wv t.wt) Q)))))by unfold jW fA zB dB;ac_rfl);obtain⟨G,H,ha,hb,d,e⟩:=h2;refine⟨G,ha,fun ba kt R w2 hg=> ?_⟩;refine(aO hb hg d e).eq ?_;have:fA x ((yY j v).setIfInBounds 11 kt) g kt ba=aa (dB x {j with hp:=ba} {v with lv:=kt}) (aa (dh g kt ba) (hpA g ba)):=rfl;rw[this];unfold jW;dsimp only
 ac_rfl
theorem w_at(h:(jW x g j v q al t av wv Q).holds w F): ∀i (hi:i<j.hp.length),w.heap[g.ap (key j.hp[i])]?=some (.cells (mr g j.hp[i] i) 126 (0,0)):=by
 have h4:=aA h (show _=aa (hpA g j.hp) (aa (dB x j v) (aa (dL g v.rv j.ring) (aa (dh g v.lv j.hp) (aa (kd g j.c.re q av) (aa (jh g av q.id al) (aa (kC g t wv) (aa (jH g wv t.wt) Q)))))))by unfold jW;ac_rfl);intro i hi;have hz:i<j.hp.zipIdx.length:=by simpa using hi
 have h5:=aA h4 (show _=aa (fH g j.hp[i] i) (aa (all (fun x:At×Nat=>fH g x.1 x.2) (j.hp.zipIdx.eraseIdx i)) (aa (dB x j v) (aa (dL g v.rv j.ring) (aa (dh g v.lv j.hp) (aa (kd g j.c.re q av) (aa (jh g av q.id al) (aa (kC g t wv) (aa (jH g wv t.wt) Q))))))))by unfold hpA;rw[AL hz,bA];simp)
 exact(cK h5).1
