import Derived.Test.YtffamlbkmjmipaaGreatDoorC11
import Derived.Test.YtffamlbkmjmipaaGreatDoorC12
import Derived.Test.YtffamlbkmjmipaaGreatDoorC15
import Derived.Test.YtffamlbkmjmipaaGreatDoorC20
set_option maxHeartbeats 8000000
set_option maxRecDepth 100000
namespace Go.Proofs.YtffamlbkmjmipaaGreatDoor
open _root_.Go.Proofs.Tryz
namespace Pj
open Go.RowKit aD Mc
attribute [local go_sem] ae ah
theorem zz: ∀(f u:Nat),u<10 ^(f+1)->ld (f+1) u=Lib.decDigits u
 |0,u,h=>by unfold ld;rw[Lib.decDigits,if_pos (by omega),dif_pos (by omega)]
 |f+1,u,h=>by
  unfold ld;rw[Lib.decDigits];by_cases h0:u<10
  ·rw[if_pos h0,dif_pos h0]
  ·rw[if_neg h0,dif_neg h0,zz f (u/10) (by rw[Nat.pow_succ]at h;omega)]
inductive Part where
 |s (b:Bs)
 |n (x:Int)
def Part.txt:Part->Bs
 | .s b=>b
 | .n x=>a7 x
def Part.val:Part->Value
 | .s b=> .iface 9 (bs b)
 | .n x=> .iface 3 (.int .i64 x)
def Part.ok:Part->Prop
 | .s b=>b.length<=64
 | .n x=>0<=x∧x<=9223372036854775807
def said(ps:List Part):Bs:=Lib.join (ps.map Part.txt) [32]
def rC(tb:Nat)(out:List (Int×Bs)):aD:=ex fun ov=>aa (blk tb (.cells #[ov] 94 (0,0))) (Mr.dT ov out)
theorem Ja{x:Int}(h:0<=x∧x<=9223372036854775807):Lib.itoa x=a7 x:=by unfold Lib.itoa a7;rw[if_neg (by omega),zz 19 _ (by omega)]
theorem asS(v:Value)(w:World):(Instr.typeAssert (.iface 9 v) 20 9 true).run prog w= .ok (.tuple #[v, .bool true]) w:=by kernel_rfl
theorem asN(v:Value)(w:World):(Instr.typeAssert (.iface 3 v) 20 9 true).run prog w= .ok (.tuple #[.string ⟨#[]⟩, .bool false]) w:=by kernel_rfl
theorem asI(v:Value)(w:World):(Instr.typeAssert (.iface 3 v) 20 3 true).run prog w= .ok (.tuple #[v, .bool true]) w:=by kernel_rfl
theorem Ns:(prog.info? 9).map (fun i=>(i.zero,i.size,i.bytes))=some (some (.string ⟨#[]⟩),1,16):=by kernel_rfl
theorem Nr:(prog.info? 51).map (fun i=>(i.zero,i.size,i.bytes))=some (some (.agg #[.int .i64 0, .string ⟨#[]⟩]),2,24):=by kernel_rfl
theorem Ip:Builder.Extra prog Aa:={sizeBuilder:=by kernel_rfl,liesBuilder:=by kernel_rfl,t5:=underlying5,a5:=isAgg5,z5:=sizeOf5,v5:=zeroValue5,infoByte:=by kernel_rfl,cellsByte:=by kernel_rfl,sizeByte:=by kernel_rfl,neB5:=by decide}
theorem yZ{w w1 w2:World}(h:Below w.heap.size w w1)(h2:Below w1.heap.size w1 w2):Below w.heap.size w w2:=
 ⟨h2.os.trans h.os,h2.tape.trans h.tape,h2.output.trans h.output,au h.size h2.size,fun k hk=>(h2.block k (bE hk h.size)).trans (h.block k hk)⟩
theorem below_grow(w:World)(k:Nat)(os:Array Obj):Below w.heap.size w (Go.Sort.grow (w.drewN k) os):=by refine⟨rfl,rfl,rfl,by simp[Go.Sort.grow],fun i hi=> ?_⟩;show(w.heap++os)[i]?=w.heap[i]?;rw[Array.getElem?_append_left hi]
theorem mi(tb:Nat)(c:Int)(ps:List Part)(pb po cp:Nat)(out:List (Int×Bs))(w:World)(F:Ft)(h:(rC tb out).holds w F)(hps: ∀k p,ps[k]?=some p->w.cell? ⟨pb,po+k,none⟩=some p.val)(Uh:0<ps.length)(hn:ps.length<=16)(Ui:pb<w.heap.size)(yD: ∀p∈ps,p.ok)(hlen:(said ps).length<=1048576)(Cq:out.length<=134217728)(hT: ∀w',Below w.heap.size w w'->Lib.TabIs prog w' "internal/strconv.uint64pow10" .u64 Lib.pow10Tab):Calls prog 89 #[pt tb, .int .i64 c, .slice (some ⟨pb,po,none⟩) ps.length cp] w fun e w'=>e= .returned (.tuple #[])∧Goes (rC tb (out++ [(c,said ps)])) w F w':=by
 obtain⟨i0,kg,nV,j0,kC⟩:=fo Ns;obtain⟨i1,BB,hy0,hy1,XV⟩:=fo Nr;have HP:=hide hps;have HT:=hide hT;have Du:=hide yD;have HH:=hide h;have pQ:=hide hlen;clear hps hT yD h hlen;unfold pt;obtain⟨Z,hZ,hmk⟩: ∃Z:Array Value,Z.size=ps.length∧(Instr.makeSlice 37 (.int .i64 0) (.int .i64 (ps.length:Int))).run prog w= .ok (.slice (some ⟨w.heap.size,0,none⟩) 0 ps.length) (w.alloc (.cells Z 9)):=by have:=run_makeSlice (P:=prog) w 37 9 i0 (.string ⟨#[]⟩) underlying37 kg nV .i64 .i64 0 (ps.length:Int) (by omega) (by omega) (by rw[j0];simp;omega) (by rw[kC];omega) (by omega);refine⟨_, ?_,this⟩;simp[madeCells,j0]
 go_enter func89,ntmps89;go_wp2;go_loopw [6,17] (fun lv i wr=> ∃k:Nat,k<=ps.length∧i= .int .i64 k∧ ∃gp jo,lv= .slice gp k jo∧Hid (Goes (rowA 9 1 (.slice gp k jo) k ((ps.take k).map fun p=>bs p.txt)) w (fun _=>False) wr)) (fun _ i _=>ps.length-(intOf i).toNat)
 case atStart=>refine⟨0,bk _,rfl,some ⟨w.heap.size,0,none⟩,ps.length,rfl, ?_⟩;show Goes _ _ _ _;refine⟨fun k=>k=w.heap.size,⟨by simp, .inr ⟨w.heap.size,0,ps.length,Z,rfl,fun k=>Iff.rfl,heap_alloc_new w _,bk _,by unfold maxLen;omega,by omega,by simp⟩⟩,(Only.refl _ _).alloc _,fun k hk=> .inr (by omega)⟩
 case round=>
  obtain⟨k,hk,rfl,gp,jo,rfl,HN⟩:=hrel;have hB:=gD HN.out;have cY:=hB.size;by_cases aQ:k<ps.length
  ·have c0:wr.cell? ⟨pb,po+k,none⟩=some (ps[k]'aQ).val:=by
    rw[hB.cell (p:=⟨pb,po+k,none⟩) Ui];exact HP.out k _ (aV aQ)
   have Nl:=Du.out _ (bY aQ);obtain⟨Gr,nt,Q2,QY⟩:=HN.out;have mV:Hid ((ps.take (k+1)).map (fun p=>bs p.txt)=(ps.take k).map (fun p=>bs p.txt)++ [bs (ps[k]'aQ).txt]):=by show(_=_);rw[kV aQ,aB];rfl
   have R8:Hid (∀(b:Bs) (wa:World) (dz:Option Addr) (mJ:Nat) (w2:World),bs (ps[k]'aQ).txt=bs b->Only (fun _=>False) w wa->Goes (rowA 9 1 (.slice dz (k+1) mJ) (k+1) (((ps.take k).map fun p=>bs p.txt)++ [.string ⟨b.toArray⟩])) wa Gr w2->Goes (rowA 9 1 (.slice dz (k+1) mJ) (k+1) ((ps.take (k+1)).map fun p=>bs p.txt)) w (fun _=>False) w2):=fun b wa dz mJ w2 e o hg=>by rw[mV.out,e];exact ay o QY hg
   have iL:=hide nt;have YT:=hide Q2;clear HN nt Q2 QY;cases oJ:(ps[k]'aQ)with
   |s b=>
    have VO:Hid (bs (ps[k]'aQ).txt=bs b):=by show(_=_);rw[oJ];rfl
    rw[oJ]at c0;have c0':wr.cell? ⟨pb,po+k,none⟩=some (.iface 9 (.string ⟨b.toArray⟩)):=c0;have R4: ∀w,_:=fun w=>asS (.string ⟨b.toArray⟩) w;have Qx:k<=16:=by omega
    clear c0 oJ Nl;go_wp2_with (first
     |(at_builtin;go_must(refine bh _ rfl _ _ 37 rfl 9 i0 (.string ⟨#[]⟩) 1 16 underlying37 kg nV j0 kC rfl (by decide) (F:=Gr) _ k ((ps.take k).map fun p:Part=>bs p.txt) rfl (Mr.aF iL.out ((ar _ _).alloc (af _) _)) ⟨wr.heap.size,0,none⟩ 1 1 [.string ⟨b.toArray⟩] rfl rfl (World.news_of_block (cs:= #[.string ⟨b.toArray⟩]) (t:=9) (fr:=(0,0)) (heap_alloc_new wr _)) (by simp[Value.oneCell']) (by unfold maxLen;omega) (by omega) ?_;intro dz mJ w2 bz;have nS:=hide (R8.out b _ dz mJ w2 VO.out (YT.out.alloc _) bz);clear bz)))
    go_roundw
    case rel=>exact⟨k+1,by omega,by go_num,dz,mJ,by first|rfl|go_num,nS⟩
    case measure=>simp[intOf];omega
   |n y=>
    have VO:Hid (bs (ps[k]'aQ).txt=bs (a7 y)):=by show(_=_);rw[oJ];rfl
    rw[oJ]at c0 Nl;have Us:0<=y∧y<=9223372036854775807:=Nl;have c0':wr.cell? ⟨pb,po+k,none⟩=some (.iface 3 (.int .i64 y)):=c0;have R4: ∀w,_:=fun w=>asN (.int .i64 y) w;have XN: ∀w,_:=fun w=>asI (.int .i64 y) w;have VW:=Any.strconv_Itoa itoa y (by omega) Us.2 wr (HT.out wr hB);change Calls prog 135 _ _ _ at VW;rw[Ja Us]at VW;have Qx:k<=16:=by omega
    clear c0 oJ Nl;go_wp2_with (first
     |(go_at_call 135;go_must(refine VW.mono ?_;rintro e w1⟨rfl,q1,os1,fZ⟩;have bP:=below_grow wr q1 os1;rw[<-fZ]at bP;have PN:=hide bP;clear fZ bP))
     |(at_builtin;go_must(refine bh _ rfl _ _ 37 rfl 9 i0 (.string ⟨#[]⟩) 1 16 underlying37 kg nV j0 kC rfl (by decide) (F:=Gr) _ k ((ps.take k).map fun p:Part=>bs p.txt) rfl (Mr.aF (Mr.aF iL.out PN.out) ((ar _ _).alloc (af _) _)) ⟨w1.heap.size,0,none⟩ 1 1 [.string ⟨(a7 y).toArray⟩] rfl rfl (World.news_of_block (cs:= #[.string ⟨(a7 y).toArray⟩]) (t:=9) (fr:=(0,0)) (heap_alloc_new w1 _)) (by simp[Value.oneCell']) (by unfold maxLen;omega) (by omega) ?_;intro dz mJ w2 bz;have nS:=hide (R8.out (a7 y) _ dz mJ w2 VO.out ((YT.out.below PN.out).alloc _) bz);clear bz)))
    go_roundw
    case rel=>exact⟨k+1,by omega,by go_num,dz,mJ,by first|rfl|go_num,nS⟩
    case measure=>simp[intOf];omega
  ·obtain rfl:k=ps.length:=by omega
   obtain⟨Gr,nt,Q2,QY⟩:=HN.out;rw[List.take_length]at nt;obtain⟨ov,hH⟩:=HH.out;obtain⟨G1,G2,bP,XB,dd,ee⟩:=hH;obtain⟨oo,KJ,rfl,_⟩:=bS XB;have XN:tb<w.heap.size:=(bZ.1 bP.1).1;obtain⟨g',off,rfl⟩: ∃g' off,gp=some ⟨g',off,none⟩:=by obtain⟨_,_,e1,_,_,h4,_⟩:=bS nt;cases e1;obtain⟨g',off,e2,_⟩:=h4 Uh;exact⟨g',off,e2⟩
   have Fj:ps.length<=jo:=by obtain⟨_,_,e1,h2,_⟩:=bS nt;cases e1;exact h2
   have HJ:Hid (Calls prog 136 #[.slice (some ⟨g',off,none⟩) ps.length jo, .string ⟨#[32]⟩] wr fun e w'=>e= .returned (.string ⟨(said ps).toArray⟩)∧Below wr.heap.size wr w'):=by
    have em:(ps.map fun p=>(⟨p.txt.toArray⟩:ByteArray)).map (·.data.toList)=ps.map Part.txt:=by rw[az];exact bu fun p _=>by simp
    have:=Any.strings_Join join Ip g' off jo (ps.map fun p=>(⟨p.txt.toArray⟩:ByteArray)) ⟨#[32]⟩ wr (fun j x hx=>by
     rw[List.getElem?_map]at hx;cases hj:ps[j]? with
     |none=>rw[hj]at hx;cases hx
     |some p=>rw[hj]at hx;have TZ:j<ps.length:=(cH.1 hj).1;rw[aW nt j (by omega),List.getElem?_map,hj];simp only[Option.map_some,Option.some.injEq]at hx⊢;rw[<-hx];rfl) (jC nt).1 (by simp;omega) (by simpa using Fj) (by rw[em];have:=pQ.out;unfold said at this;exact au this (by omega))
    rw[em,aR]at this;exact this
   have uH:Hid (∀w2,Calls prog 46 #[.string ⟨(said ps).toArray⟩] w2 fun e w'=>e= .returned (.string ⟨(aP.line (said ps)).toArray⟩)∧Below w2.heap.size w2 w'):=fun w2=>by have:=aP.pH ⟨(said ps).toArray⟩ w2 (by have:=pQ.out;simpa[ByteArray.size]using this);simpa using this
   have jM:Hid (∀w3,Below w.heap.size w w3->w3.cell? ⟨tb,0,none⟩=some (.slice oo out.length KJ)∧(rowA 51 2 (.slice oo out.length KJ) out.length (flat Mr.o8 out)).holds (w3.alloc (.cells #[.int .i64 c, .string ⟨(aP.line (said ps)).toArray⟩] 51)) G2∧
     ∀Mt MC w5,Goes (rowA 51 2 (.slice Mt (out.length+1) MC) (out.length+1) (flat Mr.o8 out++ [.int .i64 c, .string ⟨(aP.line (said ps)).toArray⟩])) (w3.alloc (.cells #[.int .i64 c, .string ⟨(aP.line (said ps)).toArray⟩] 51)) G2 w5->
      w5.cell? ⟨tb,0,none⟩=some (.slice oo out.length KJ)∧w5.frozen? ⟨tb,0,none⟩=false∧Goes (rC tb (out++ [(c,said ps)])) w F (w5.setCell ⟨tb,0,none⟩ (.slice Mt (out.length+1) MC))):=fun w3 M9=>by
    have nU:(blk tb (.cells #[.slice oo out.length KJ] 94 (0,0))).holds w3 G1:=Mr.aF bP M9;refine⟨by simp only[World.cell?,nU.1];rfl,dG (Mr.aF XB M9) _,fun Mt MC w5 hg=> ?_⟩;have g1:Goes (aa (rowA 51 2 (.slice Mt (out.length+1) MC) (out.length+1) (flat Mr.o8 out++ [.int .i64 c, .string ⟨(aP.line (said ps)).toArray⟩])) (blk tb (.cells #[.slice oo out.length KJ] 94 (0,0)))) w3 F w5:=aH nU (dy hg) (fun k hk h=>dd k h hk) (fun k=>(ee k).trans or_comm);have o3:Only F w w3:=(Only.refl F w).below M9;have g2:=(ay o3 (fun k hk=> .inl hk) g1).eq (aZ _ _);obtain⟨F5,E9,_⟩:=id g2;obtain⟨cl5,fz5,_⟩:=bq E9;refine⟨cl5 0,fz5 0,(g2.store 0 _).mono fun F6 h6=>⟨.slice Mt (out.length+1) MC, ?_⟩⟩;have e6:Mr.dT (.slice Mt (out.length+1) MC) (out++ [(c,said ps)])=rowA 51 2 (.slice Mt (out.length+1) MC) (out.length+1) (flat Mr.o8 out++ [.int .i64 c, .string ⟨(aP.line (said ps)).toArray⟩]):=by unfold Mr.dT;rw[aC,jU];rfl
    show(aa (blk tb _) (Mr.dT _ _)).holds _ _;rw[e6];exact h6
   have HB:=hide hB;clear HN nt Q2 QY bP XB dd ee HH HP HT Du pQ hmk hB;generalize ps.length=np at*;generalize q9:said ps=sd at*;generalize yC:aP.line sd=ln at*;go_wp2_with (first
    |(go_at_call 136;go_must(refine HJ.out.mono ?_;rintro e w2⟨rfl,cL⟩;have Hd:=hide (yZ HB.out cL);clear cL))
    |(go_at_call 46;go_must(refine(uH.out _).mono ?_;rintro e w3⟨rfl,nU⟩;have M9:=yZ Hd.out nU;obtain⟨d1,d2,d3⟩:=jM.out w3 M9;have iL:=hide d2;have HD3:=hide d3;clear nU M9 d2 d3))
    |(at_builtin;go_must(refine bh _ rfl _ _ 32 rfl 51 i1 (.agg #[.int .i64 0, .string ⟨#[]⟩]) 2 24 underlying32 BB hy0 hy1 XV rfl (by decide) (F:=G2) _ out.length _ rfl iL.out ⟨w3.heap.size,0,none⟩ 1 1 [.int .i64 c, .string ⟨ln.toArray⟩] rfl rfl (World.news_of_block (cs:= #[.int .i64 c, .string ⟨ln.toArray⟩]) (t:=51) (fr:=(0,0)) (heap_alloc_new w3 _)) (by simp[Value.oneCell']) (by unfold maxLen;omega) (by omega) ?_;intro Mt MC w5 bz;obtain⟨d4,d5,d6⟩:=HD3.out Mt MC w5 bz;have HE:=hide d6;clear bz d6)))
   go_end0;exact⟨rfl,by rw[q9];exact HE.out⟩
variable{x:Nat}{g:Gh}{j:Js}{v:Dv}{w:World}{F:Ft}
theorem tO(h:(aS x g j v).holds w F):(∀k,w.cell? ⟨x,k,none⟩=(uI j v)[k]?)∧(∀k,w.frozen? ⟨x,k,none⟩=false)∧x<w.heap.size:=by have:=bq h;exact⟨this.1,this.2.1,(bZ.1 this.2.2).1⟩
theorem QO(h:(aS x g j v).holds w F): ∃G,(iu v.cm j.br).holds w G:=by
 have e:aS x g j v=aa (iu v.cm j.br) (aa (dB x j v) (aa (gJ g v.rm j.reqs) (aa (fW g v.tm j.aI) (aa (all gi j.br) (aa (all (dP g j.c.re) j.reqs) (aa (all (eC g) j.aI) (aa (dF g v.rv j.ring) (aa (gm v.pv j.pull) (aa (dm g v.lv j.hp) (hpA g j.hp)))))))))):=by unfold aS;ac_rfl
 obtain⟨G,hG,_⟩:=aD.left (aw h e);exact⟨G,hG⟩
theorem XZ(h:(aS x g j v).holds w F): ∀k∈j.br,∃kv,w.heap[k.p]?=some (.cells #[kv, .bool k.dr] 107 (0,0)):=by
 have e:aS x g j v=aa (all gi j.br) (aa (iu v.cm j.br) (aa (dB x j v) (aa (gJ g v.rm j.reqs) (aa (fW g v.tm j.aI) (aa (all (dP g j.c.re) j.reqs) (aa (all (eC g) j.aI) (aa (dF g v.rv j.ring) (aa (gm v.pv j.pull) (aa (dm g v.lv j.hp) (hpA g j.hp)))))))))):=by unfold aS;ac_rfl
 obtain⟨G,hG,_⟩:=aD.left (aw h e);intro k hk;obtain⟨G',kv,lj⟩:=Mr.sN hG k hk;exact⟨kv,(bQ lj).1⟩
theorem J7(h:(aS x g j v).holds w F):(∃G,(dm g v.lv j.hp).holds w G)∧ ∀i (hi:i<j.hp.length),w.heap[g.ap (key j.hp[i])]?=some (.cells (kO g j.hp[i] i) 126 (0,0)):=by
 have e:aS x g j v=aa (dm g v.lv j.hp) (aa (hpA g j.hp) (aa (iu v.cm j.br) (aa (dB x j v) (aa (gJ g v.rm j.reqs) (aa (fW g v.tm j.aI) (aa (all gi j.br) (aa (all (dP g j.c.re) j.reqs) (aa (all (eC g) j.aI) (aa (dF g v.rv j.ring) (gm v.pv j.pull)))))))))):=by unfold aS;ac_rfl
 have h2:=aw h e;obtain⟨G,H,h3,h4,_⟩:=h2;refine⟨⟨G,h3⟩,fun i hi=> ?_⟩;have hz:i<j.hp.zipIdx.length:=by simpa using hi
 have h5:=aw h4 (show _=aa (eN g j.hp[i] i) (aa (all (fun x:At×Nat=>eN g x.1 x.2) (j.hp.zipIdx.eraseIdx i)) (aa (iu v.cm j.br) (aa (dB x j v) (aa (gJ g v.rm j.reqs) (aa (fW g v.tm j.aI) (aa (all gi j.br) (aa (all (dP g j.c.re) j.reqs) (aa (all (eC g) j.aI) (aa (dF g v.rv j.ring) (gm v.pv j.pull))))))))))by unfold hpA;rw[wX hz,bn];simp)
 exact(bQ h5).1
theorem Dp(w:World):(zeroValue 99).run prog w= .ok (.pointer none) w:=by kernel_rfl
theorem s5(x:Nat)(g:Gh)(j:Js)(c:Int)(w:World)(F:Ft)(h:(jA x g j).holds w F)(hc:(Lit.int .i64 c).wf=true)(hcn:(j.br.map (·.n)).Nodup):Calls prog 165 #[pt x, .int .i64 c] w fun e w'=>e= .returned (.bool (j.drains c))∧w'=w:=by
 obtain⟨v,h⟩:=h;have c6:w.cell? ⟨x,6,none⟩=some (.map (some v.cm)):=(tO h).1 6;obtain⟨G,hG⟩:=QO h;have gZ:=j6 hG (t:=81) (e:=99) underlying81 (Dp w) c hc;have Fv:(Instr.lookup 81 (.map (some v.cm)) (.int .i64 c) false).run prog w= .ok (mQ (j.br.map fun k=>(k.n,k.p)) c) w:=gZ;cases hf:j.br.find? (·.n==c)with
 |none=>
  have hn:c∉(j.br.map fun k=>(k.n,k.p)).map (·.1):=by rw[az];intro hm;obtain⟨k,hk,e⟩:=ax.1 hm;exact List.find?_eq_none.1 hf k hk (by simpa using e)
  rw[iX hn]at Fv;have ed:j.drains c=false:=by unfold Js.drains;rw[hf]
  rw[ed];clear gZ hG h;unfold pt;go_enter func165,ntmps165;go_wp2;go_ret;exact⟨rfl,rfl⟩
 |some k=>
  have hk:=cO hf;have ek:k.n=c:=by simpa using List.find?_some hf
  have hl:=iY (m:=j.br.map fun k=>(k.n,k.p)) (by rw[az];exact hcn) (ax.2 ⟨k,hk,rfl⟩);dsimp only at hl;rw[ek]at hl;rw[hl]at Fv;obtain⟨kv,Qy⟩:=XZ h k hk;have c1:w.cell? ⟨k.p,1,none⟩=some (.bool k.dr):=by simp only[World.cell?,Qy];rfl
  have ed:j.drains c=k.dr:=by unfold Js.drains;rw[hf]
  rw[ed];clear gZ hG h hl Qy;unfold pt at*;go_enter func165,ntmps165;go_wp2;go_ret;exact⟨rfl,rfl⟩
theorem iR(c:Int)(w:World):Calls prog 79 #[.int .i64 c] w fun e w'=>e= .returned (.func (.func 124) #[] #[.pointer (some ⟨w.heap.size,0,none⟩)])∧w'=w.alloc (.cells #[.int .i64 c] 3):=by go_enter func79,ntmps79;go_wp2;go_ret;exact⟨rfl,rfl⟩
theorem lS(p bx:Nat)(c d:Int)(w:World)(hp:w.cell? ⟨p,2,none⟩=some (.int .i64 d))(hb:w.cell? ⟨bx,0,none⟩=some (.int .i64 c)):Calls prog 124 #[.pointer (some ⟨p,0,none⟩), .pointer (some ⟨bx,0,none⟩)] w fun e w'=>e= .returned (.bool (d==c))∧ ∃q,w'=w.drewN q:=by
 go_enter func124,ntmps124;go_wp2
 go_quiet (fail)
 go_wp2;go_ret;exact⟨rfl,_,rfl⟩
end Pj
namespace Pj
open Go.RowKit aD Mc
def I6(c:Int):Prop:=(Lit.int .i64 c).wf=true
def Cw(j:Js):Prop:=(∀a∈j.hp,I6 a.conn)∧ ∀c∈j.pull,I6 c
def gu(j:Js):List (Int×Nat×Bs):=j.br.map fun k=>(k.n,k.p,k.kept)
def stA(base x tb:Nat)(g:Gh)(cn:List (Int×Nat×Bs))(s:St):aD where
 holds w F:= ∃j,Rel g j s∧Cw j∧gu j=cn∧(∀k,F k->base<=k)∧(aa (jA x g j) (rC tb s.out)).holds w F
 lt h:=by obtain⟨j,_,_,_,_,h⟩:=h;exact aD.lt _ h
 keep h hk:=by obtain⟨j,h1,h2,h3,h4,h⟩:=h;exact⟨j,h1,h2,h3,h4,aD.keep _ h hk⟩
def Tabs(base:Nat)(w:World):Prop:=base<=w.heap.size∧ ∀w',Below base w w'->Lib.TabIs prog w' "internal/strconv.uint64pow10" .u64 Lib.pow10Tab
section
variable{base:Nat}{w w':World}{F:Ft}{A:aD}
theorem fC{a b c:World}(h:Below base a b)(h2:Below base b c):Below base a c:=
 ⟨h2.os.trans h.os,h2.tape.trans h.tape,h2.output.trans h.output,au h.size h2.size,fun k hk=>(h2.block k hk).trans (h.block k hk)⟩
theorem Tabs.below(T:Tabs base w)(h:Below base w w'):Tabs base w':=⟨au T.1 h.size,fun w2 h2=>T.2 w2 (fC h h2)⟩
theorem Tabs.goes(T:Tabs base w)(hF: ∀k,F k->base<=k)(h:Goes A w F w'):Tabs base w':=by obtain⟨_,_,o,_⟩:=h;exact T.below (o.toBelow hF T.1)
theorem Tabs.only(T:Tabs base w)(hF: ∀k,F k->base<=k)(o:Only F w w'):Tabs base w':=T.below (o.toBelow hF T.1)
theorem Tabs.new(T:Tabs base w)(h:Below w.heap.size w w'):Tabs base w':=T.below (h.mono T.1)
theorem Tabs.tab(T:Tabs base w): ∀w',Below w.heap.size w w'->Lib.TabIs prog w' "internal/strconv.uint64pow10" .u64 Lib.pow10Tab:=fun w' h=>T.2 w' (h.mono T.1)
end
section
variable{base x tb:Nat}{g:Gh}{cn:List (Int×Nat×Bs)}{s:St}{j:Js}{w w':World}{F:Ft}
theorem cr(h:(stA base x tb g cn s).holds w F): ∀k,F k->base<=k:=by obtain⟨_,_,_,_,h,_⟩:=h;exact h
theorem fJ{j':Js}{s':St}(T:Tabs base w)(hF: ∀k,F k->base<=k)(h1:Rel g j' s')(h2:Cw j')(h3:gu j'=cn)(h:Goes (aa (jA x g j') (rC tb s'.out)) w F w'):Goes (stA base x tb g cn s') w F w':=by
 obtain⟨F',h',o,n⟩:=h;refine⟨F',⟨j',h1,h2,h3,fun k hk=> ?_,h'⟩,o,n⟩;rcases n k hk with e|e
 ·exact hF k e
 ·exact au T.1 e
theorem dD(h:Rel g j s)(hi:Inv s)(hz:s.sz<=16777000):Wf j:=by
 have hz':=hz;unfold St.sz at hz';have Xn: ∀t,∀i∈s.aL t,∃l∈s.ring,i∈l.ids:=fun t i hm=>by
  unfold St.aL at hm;split at hm
  ·rename_i l hl;exact⟨l,cO hl,hm⟩
  ·cases hm
 have jH:=St.A0 hi;have LW:j.reqs.length=s.reqs.length:=by rw[<-h.reqs,aR]
 have iT:(j.reqs.map fun r=>r.q.id)=s.reqs.map (·.id):=by rw[<-h.reqs,az];rfl
 have qZ:s.ks.map (·.1)=s.reqs.map (·.id):=by unfold St.ks;rw[az];rfl
 have Z7: ∀i t,(i,t)∈s.ks->i∈j.reqs.map fun r=>r.q.id:=fun i t hm=>by rw[iT,<-qZ];exact ax.2 ⟨_,hm,rfl⟩
 refine⟨by rw[iT,<-qZ];exact hi.rid,h.mn,fun t ht i hm=> ?_,fun n hm=> ?_,fun r hr=> ?_,fun t ht=> ?_, ?_, ?_, ?_,fun t ht=> ?_, ?_, ?_, ?_,fun r hr=> ?_⟩
 ·rw[h.wt t ht]at hm;obtain⟨l,hl,Fq⟩:=Xn _ i hm;exact Z7 i _ ((hi.ring l hl).2 i Fq)
 ·rw[h.ring]at hm;obtain⟨l,hl,rfl⟩:=ax.1 hm;obtain⟨h1,h2⟩:=hi.ring l hl;obtain⟨i,vk⟩:=List.exists_mem_of_ne_nil _ h1;have:=h2 i vk;unfold St.ks at this;obtain⟨r,hr,e⟩:=ax.1 this;have e2:r.ten=l.ten:=congrArg Prod.snd e;rw[<-e2];exact h.ten r hr
 ·exact h.ten r.q (by rw[<-h.reqs];exact ax.2 ⟨r,hr,rfl⟩)
 ·rw[h.wt t ht];unfold St.aL;split
  ·rename_i l hl;have:=St.Ee hi (cO hl);omega
  ·simp
 ·rw[h.ring,aR];omega
 ·rw[h.pull];omega
 ·rw[h.hp.length_eq];omega
 ·rw[h.rn t ht];have:s.runs t.nm<=s.ag.length:=List.countP_le_length;omega
 ·omega
 ·have:=h.UQ;omega
 ·have:=h.cons;omega
 ·rw[h.al r hr];unfold St.nums;rw[aR];have:=List.length_filter_le (fun a:At=>a.id==r.q.id) s.ag;omega
end
theorem Part.qD{b:Bs}(h:b.length<=64):(Part.s b).ok:=h
theorem Part.xV{x:Int}(h:0<=x∧x<=9223372036854775807):(Part.n x).ok:=h
theorem z8: ∀(l:List Bs) (n:Nat),(∀b∈l,b.length<=n)->(Lib.join l [32]).length<=l.length*(n+1)
 | [],n,_=>by simp[Lib.join]
 | [b],n,h=>by have:=h b (by simp);simp[Lib.join];omega
 |b::b'::l,n,h=>by
  have h1:=z8 (b'::l) n (fun y hy=>h y (aY _ hy));have h2:=h b (by simp);have e:Lib.join (b::b'::l) [32]=b++ [32]++Lib.join (b'::l) [32]:=by simp[Lib.join]
  rw[e];simp only[aC,List.length_cons,List.length_nil]at h1⊢;have h3:(l.length+1+1)*(n+1)=(l.length+1)*(n+1)+(n+1):=Nat.succ_mul _ _;omega
theorem oy: ∀(f n:Nat),(ld f n).length<=f
 |0,_=>by simp[ld]
 |f+1,n=>by
  unfold ld;split
  ·simp
  ·have:=oy f (n/10);simp;omega
theorem Part.len{p:Part}(h:p.ok):p.txt.length<=64:=by
 cases p with
 |s b=>exact h
 |n x=>have:=oy 20 x.toNat;show(a7 x).length<=64;unfold a7;omega
theorem x9{base x tb:Nat}{g:Gh}{cn:List (Int×Nat×Bs)}{s:St}{w:World}{F:Ft}(T:Tabs base w)(h:(stA base x tb g cn s).holds w F)(hz:s.sz<=16777000)(c:Int)(ps:List Part)(t:Bs)(ht:said ps=t)(Uh:0<ps.length)(hn:ps.length<=16)(yD: ∀p∈ps,p.ok): ∀w1,Below w.heap.size w w1->Calls prog 89 #[pt tb, .int .i64 c, .slice (some ⟨w1.heap.size,0,none⟩) ps.length ps.length] (w1.alloc (.cells (ps.map Part.val).toArray 20)) fun e w'=>e= .returned (.tuple #[])∧Goes (stA base x tb g cn (s.say c t)) w F w':=fun w1 hB=>by
 obtain⟨j,r1,r2,r3,hF,hh⟩:=h;have hh1:=dG (Mr.aF hh hB) (.cells (ps.map Part.val).toArray 20);have T1:Tabs base (w1.alloc (.cells (ps.map Part.val).toArray 20)):=(T.new hB).new ((ar _ _).alloc (af _) _);have bP:Only F w (w1.alloc (.cells (ps.map Part.val).toArray 20)):=((Only.refl F w).below hB).alloc _;obtain⟨G,H,ha,hb,d,e⟩:=id (aw hh1 (aZ _ _));have Cq:s.out.length<=134217728:=by unfold St.sz at hz;omega
 have hlen:(said ps).length<=1048576:=by
  have:=z8 (ps.map Part.txt) 64 (fun b hb=>by obtain⟨p,hp,rfl⟩:=ax.1 hb;exact Part.len (yD p hp))
  rw[aR]at this;unfold said;omega
 refine(mi tb c ps w1.heap.size 0 ps.length s.out _ G ha (fun k p hp=> ?_) Uh hn (by simp) yD hlen Cq T1.tab).mono ?_
 ·have yy:=heap_alloc_new w1 (.cells (ps.map Part.val).toArray 20);simp only[World.cell?,yy,Nat.zero_add];simp[hp]
 ·rintro e' w'⟨rfl,hg⟩;refine⟨rfl, ?_⟩;have g1:=aH hb hg d e;rw[ht]at g1;have g2:=ay bP (fun k hk=> .inl hk) (g1.eq (aZ _ _));exact fJ T hF (r1.say c t) r2 r3 g2
end Pj
namespace Pj
open Go.RowKit aD Mc
attribute [local go_sem] ae ah
variable{s:St}{w:World}{base x tb:Nat}{g:Gh}{cn:List (Int×Nat×Bs)}{F:Ft}
theorem E5{hp:List At}(h:hp.Perm s.ag)(c:Int):(hp.find? fun a=>a.conn==c)=none↔s.held c=0:=by unfold St.held;rw[<-h.countP_eq,List.countP_eq_zero,List.find?_eq_none]
theorem bN{w1:World}{b k:Nat}(h:Below w.heap.size w w1)(hb:b<w.heap.size):w1.cell? ⟨b,k,none⟩=w.cell? ⟨b,k,none⟩:=h.cell (p:=⟨b,k,none⟩) hb
theorem pU{B:Nat}{a b:World}(h:Below B a b)(n:Nat):Below B a (b.drewN n):=⟨h.os,h.tape,h.output,h.size,h.block⟩
theorem yi{s1 s2:St}{w':World}(h:Goes (stA base x tb g cn s1) w F w')(e:s2.out=s1.out)(hr: ∀j,Rel g j s1->Rel g j s2):Goes (stA base x tb g cn s2) w F w':=by refine h.mono fun F' h'=> ?_;obtain⟨j,h1,h2,h3,h4,h5⟩:=h';exact⟨j,hr j h1,h2,h3,h4,by rw[e];exact h5⟩
theorem DB(T:Tabs base w)(h:(stA base x tb g cn s).holds w F)(hi:Inv s)(hz:s.sz<=16777000)(c:Int)(hc:I6 c)(D5:s.drains c=true->s.held c=0->(s.ak.any fun x=>x.n==c &&x.drains && !x.gone)=true)(Qp:(s.ak.any fun x=>x.n==c &&x.drains && !x.gone)=true->s.drains c=true):Calls prog 127 #[pt x,pt tb, .int .i64 c] w fun e w'=>e= .returned (.tuple #[])∧Goes (stA base x tb g cn (s.dR c)) w F w':=by
 have gj:=hide (x9 T h hz c [.s [98,121,101]] [98,121,101] rfl (by simp) (by simp) (by intro p hp;simp at hp;rw[hp];exact Part.qD (by decide)));obtain⟨j,r1,r2,r3,hF,hh⟩:=id h;obtain⟨G,H,hj,Cx,_,_⟩:=id hh;have wf:=dD r1 hi hz;have BK:Hid (∀w1,Below w.heap.size w w1->Calls prog 165 #[pt x, .int .i64 c] w1 fun e w'=>e= .returned (.bool (s.drains c))∧w'=w1):=fun w1 hB=>by have:=s5 x g j c w1 G (Mr.aF hj hB) hc r1.cnd;rwa[r1.dr c]at this
 obtain⟨v,hv⟩:=id hj;have c11:w.cell? ⟨x,11,none⟩=some v.lv:=(tO hv).1 11;have rb:x<w.heap.size:=(tO hv).2.2;obtain⟨⟨Gl,r7⟩,tA⟩:=J7 hv;obtain⟨ao,cap,E1⟩:=aJ (Goes.refl r7);rw[E1]at c11 r7;have HC:Hid (∀w1,Below w.heap.size w w1->w1.cell? ⟨x,11,none⟩=some (.slice ao j.hp.length cap)):=fun w1 hB=>by rw[bN hB rb];exact c11
 have kQ:=wf.b4;have yI:Hid (∀w1,Below w.heap.size w w1->Calls prog 166 #[.slice ao j.hp.length cap, .func (.func 124) #[] #[.pointer (some ⟨w1.heap.size,0,none⟩)]] (w1.alloc (.cells #[.int .i64 c] 3)) fun e w'=>e= .returned (ep ((j.hp.find? fun a=>a.conn==c).map fun a=>g.ap (key a)))∧Below w.heap.size w w'):=fun w1 hB=>by
  have mL:Below w.heap.size w (w1.alloc (.cells #[.int .i64 c] 3)):=hB.alloc hB.size _;refine(Zp _ j.hp (fun a=>g.ap (key a)) (fun a=>a.conn==c) 124 #[.pointer (some ⟨w1.heap.size,0,none⟩)] (enters_of func124 (by kernel_rfl) rfl) _ Gl (Mr.aF r7 mL) (fun wr hr y hy=> ?_) (by omega)).mono ?_
  ·obtain⟨i,Fq,rfl⟩:=List.mem_iff_getElem.1 hy;have ha:=tA i Fq;have aQ:g.ap (key j.hp[i])<w.heap.size:=(bZ.1 ha).1;have jf:=hB.size;have JR:=mL.size;refine lS (g.ap (key j.hp[i])) w1.heap.size c j.hp[i].conn wr ?_ ?_
   ·rw[hr.cell (p:=⟨_,2,none⟩) (bE aQ JR),mL.cell (p:=⟨_,2,none⟩) aQ];simp only[World.cell?,ha];rfl
   ·rw[hr.cell (p:=⟨w1.heap.size,0,none⟩) (by simp)];simp only[World.cell?,heap_alloc_new];rfl
  ·rintro e w'⟨rfl,q,rfl⟩;exact⟨rfl,pU mL q⟩
 have Vj:=E5 (s:=s) r1.hp c;have mV:Hid (∀w1,Below w.heap.size w w1->Goes (stA base x tb g cn s) w F w1):=fun w1 hB=>(Goes.refl h).below hB;clear h hh hj Cx hv tA r7 wf E1;unfold pt at*;cases hd:s.drains c with
 |false=>
  have Qa:s.dR c=s:=by unfold St.dR;rw[if_neg];intro e;simp only[a8]at e;have:=Qp e.1;rw[hd]at this;cases this
  rw[Qa];rw[hd]at BK;clear gj yI HC D5 Qp;go_enter func127,ntmps127;go_wp2_with fail;refine wp_region_noPanic ?_;refine wp_region_held_drew (S:=fun _=>True) (by kernel_rfl) trivial (fun V7=> ?_);refine VE (i:=0) (oi:=⟨some 6, .move (.tmp 0),40, "leave.go:21", #[],none⟩) rfl V7 ?_
  try simp only[Act.put,sT,s0,s1]
  refine VE (i:=1) (oi:=⟨some 7, .move (.tmp 2),3, "leave.go:21", #[],none⟩) rfl V7 ?_
  try simp only[Act.put,sT,s0,s1]
  refine wpAnyH_ready (rs:= [2]) (by kernel_rfl) (by simp) ?_;refine AllReadyH.cons rfl (fun K hK=> ?_) AllReadyH.nil;go_simp;refine(BK.out _ (ar _ _).drew).mono ?_;rintro e w5⟨rfl,rfl⟩;go_simp;refine hK.out _ _ trivial (fun uH=> ?_);clear hK K;refine VE (i:=3) (oi:=⟨some 9, .move (.tmp 8),4, "leave.go:21", #[⟨2, .data⟩,⟨2, .chain⟩],none⟩) rfl uH ?_
  try simp only[Act.put,sT,s0,s1]
  refine PI (i:=4) (oi:=⟨some 10, .move (.tmp 0),40, "leave.go:21", #[⟨3, .guard⟩],some (3,true)⟩) (v:=undef) rfl (Or.inr ⟨by rfl,rfl⟩) uH ?_
  try simp only[Act.put,sT,s0,s1]
  refine PI (i:=5) (oi:=⟨some 11, .nilCheck (.tmp 10),0, "leave.go:21", #[⟨4, .data⟩,⟨3, .guard⟩],some (3,true)⟩) (v:=undef) rfl (Or.inr ⟨by rfl,rfl⟩) uH ?_
  try simp only[Act.put,sT,s0,s1]
  refine PI (i:=6) (oi:=⟨some 12, .fieldAddr 88 (.tmp 11) 7,0, "leave.go:21", #[⟨5, .data⟩,⟨3, .guard⟩],some (3,true)⟩) (v:=undef) rfl (Or.inr ⟨by rfl,rfl⟩) uH ?_
  try simp only[Act.put,sT,s0,s1]
  refine PI (i:=7) (oi:=⟨some 13, .load 86 (.tmp 12),86, "leave.go:21", #[⟨6, .data⟩,⟨3, .guard⟩],some (3,true)⟩) (v:=undef) rfl (Or.inr ⟨by rfl,rfl⟩) uH ?_
  try simp only[Act.put,sT,s0,s1]
  refine PI (i:=8) (oi:=⟨some 14, .move (.tmp 2),3, "leave.go:21", #[⟨3, .guard⟩],some (3,true)⟩) (v:=undef) rfl (Or.inr ⟨by rfl,rfl⟩) uH ?_
  try simp only[Act.put,sT,s0,s1]
  refine PI (i:=9) (oi:=⟨some 15, .call {callee:= .value (.func 79),args:= #[.tmp 14],argTypes:= #[3]},133, "leave.go:21", #[⟨8, .data⟩,⟨3, .chain⟩,⟨3, .guard⟩],some (3,true)⟩) (v:=undef) rfl (Or.inr ⟨by rfl,rfl⟩) uH ?_
  try simp only[Act.put,sT,s0,s1]
  refine PI (i:=10) (oi:=⟨some 16, .call {callee:= .value (.func 166),args:= #[.tmp 13, .tmp 15],argTypes:= #[85,133]},127, "leave.go:21", #[⟨7, .data⟩,⟨9, .data⟩,⟨9, .chain⟩,⟨3, .guard⟩],some (3,true)⟩) (v:=undef) rfl (Or.inr ⟨by rfl,rfl⟩) uH ?_
  try simp only[Act.put,sT,s0,s1]
  refine PI (i:=11) (oi:=⟨some 17, .binOp .eql 127 (.tmp 16) (.const (.pointer none)) 127,4, "leave.go:21", #[⟨10, .data⟩,⟨3, .guard⟩],some (3,true)⟩) (v:=undef) rfl (Or.inr ⟨by rfl,rfl⟩) uH ?_
  try simp only[Act.put,sT,s0,s1]
  refine VE (i:=12) (oi:=⟨some 18, .pick (.tmp 9) (.tmp 17) (.const (.bool false)),4, "leave.go:21", #[⟨3, .data⟩,⟨11, .data⟩],none⟩) rfl uH ?_
  try simp only[Act.put,sT,s0,s1]
  refine wpAnyH_done (by kernel_rfl) (NoPanic.normal ?_) _;clear uH V7;go_wp2;go_end0;exact⟨rfl,mV.out _ (ar _ _).drew⟩
 |true=>
  rw[hd]at BK;cases hf:(j.hp.find? fun a=>a.conn==c)with
  |some a=>
   have hn:s.held c≠0:=fun e=>by rw[Vj.2 e]at hf;cases hf
   have Qa:s.dR c=s:=by unfold St.dR;rw[if_neg];intro e;simp only[a8,beq_iff_eq]at e;exact hn e.2
   rw[Qa];rw[hf]at yI;change Hid (∀w1,Below w.heap.size w w1->Calls prog 166 _ _ fun e w'=>e= .returned (.pointer (some ⟨g.ap (key a),0,none⟩))∧Below w.heap.size w w')at yI;clear gj D5 Qp Vj;generalize g.ap (key a)=pa at*;generalize j.hp.length=nl at*;go_enter func127,ntmps127;go_wp2_with fail;go_region_held3 (fun w'=>w'.cell? ⟨x,11,none⟩=some (.slice ao nl cap)) (go_keep)
    (first
     |(go_at_call 165;go_must(refine(BK.out _ (ar _ _).drew).mono ?_;rintro e w5⟨rfl,rfl⟩;have q1:=HC.out _ (ar w.heap.size w).drew))
     |(go_at_call 79;go_must(refine(iR c _).mono ?_;rintro e w6⟨rfl,rfl⟩;have q2:=HC.out _ ((ar w.heap.size w).drew.alloc (af _) (.cells #[.int .i64 c] 3))))
     |(go_at_call 166;go_must(refine(yI.out _ (ar _ _).drew).mono ?_;rintro e w7⟨rfl,r9⟩;have q3:=HC.out _ r9)))
   all_goals have VJ:=mV.out _ r9;clear r9;go_wp2;go_end0;exact⟨rfl,VJ⟩
  |none=>
   have hn:=Vj.1 hf;have Ht:Hid (∀w',Goes (stA base x tb g cn (s.say c [98,121,101])) w F w'->Goes (stA base x tb g cn (s.dR c)) w F w'):=fun w' hg=>by
    refine yi hg ?_ (fun j' hr=>(hr.out s.out).dR c);unfold St.dR;rw[if_pos]
    ·rfl
    ·simp only[a8,beq_iff_eq];exact⟨D5 hd hn,hn⟩
   rw[hf]at yI;change Hid (∀w1,Below w.heap.size w w1->Calls prog 166 _ _ fun e w'=>e= .returned (.pointer none)∧Below w.heap.size w w')at yI;clear D5 Qp Vj;generalize j.hp.length=nl at*;go_enter func127,ntmps127;go_wp2_with fail;go_region_held3 (fun w'=>w'.cell? ⟨x,11,none⟩=some (.slice ao nl cap)) (go_keep)
    (first
     |(go_at_call 165;go_must(refine(BK.out _ (ar _ _).drew).mono ?_;rintro e w5⟨rfl,rfl⟩;have q1:=HC.out _ (ar w.heap.size w).drew))
     |(go_at_call 79;go_must(refine(iR c _).mono ?_;rintro e w6⟨rfl,rfl⟩;have q2:=HC.out _ ((ar w.heap.size w).drew.alloc (af _) (.cells #[.int .i64 c] 3))))
     |(go_at_call 166;go_must(refine(yI.out _ (ar _ _).drew).mono ?_;rintro e w7⟨rfl,r9⟩;have q3:=HC.out _ r9)))
   all_goals
    have HS7:=hide (gj.out _ r9);clear r9;go_wp2_with (first
     |(go_at_call 89;go_must(refine HS7.out.mono ?_;rintro e w8⟨rfl,oI⟩;have Hf:=hide oI;clear oI)))
    go_end0;exact⟨rfl,Ht.out _ Hf.out⟩
end Pj
namespace Pj
open Go.RowKit aD Mc
def jQ(g:Gh)(j:Js)(v:Dv)(r:Rr)(t:Tr):aD:=
 aa (iu v.cm j.br) (aa (gJ g v.rm j.reqs) (aa (fW g v.tm j.aI) (aa (all gi j.br) (aa (all (dP g j.c.re) (j.reqs.filter fun y=>decide (y.q.id≠r.q.id))) (aa (all (eC g) (j.aI.filter fun y=>decide (y.nm≠t.nm))) (gm v.pv j.pull))))))
def jW(x:Nat)(g:Gh)(j:Js)(v:Dv)(q:Rq)(al:List Int)(t:Tr)(av wv:Value)(Q:aD):aD:=
 aa (dB x j v) (aa (dF g v.rv j.ring) (aa (dm g v.lv j.hp) (aa (hpA g j.hp) (aa (ji g j.c.re q av) (aa (iM g av q.id al) (aa (jF g t wv) (aa (je g wv t.wt) Q)))))))
def Js.at2(j:Js)(id:Int)(nm:Bs)(q:Rq)(al:List Int)(t:Tr):Js:=
 {j with reqs:=upd (fun r:Rr=>r.q.id) id (fun _=>⟨q,al⟩) j.reqs,aI:=upd (fun t:Tr=>t.nm) nm (fun _=>t) j.aI}
theorem iJ{α κ:Type} [DecidableEq κ]{k:α->κ}{l:List α}(hn:(l.map k).Nodup){y:α}(hy:y∈l)(f:α->α):upd k (k y) f l=upd k (k y) (fun _=>f y) l:=by
 unfold upd;refine bu fun z hz=> ?_;split
 ·rename_i e;rw[bC (k:=k) hn hz hy e]
 ·rfl
section
variable{x:Nat}{g:Gh}{j:Js}{v:Dv}{r:Rr}{t:Tr}{q:Rq}{al:List Int}{av wv:Value}{B Q:aD}{w w':World}{F:Ft}
theorem KM(h1:(j.reqs.map fun r=>r.q.id).Nodup)(h2:(j.aI.map (·.nm)).Nodup)(hr:r∈j.reqs)(ht:t∈j.aI):aa (aS x g j v) B=ex fun av=>ex fun wv=>jW x g j v r.q r.al t av wv (aa (jQ g j v r t) B):=by
 have e1:aS x g j v=aa (dB x j v) (aa (dF g v.rv j.ring) (aa (dm g v.lv j.hp) (aa (hpA g j.hp) (aa (dP g j.c.re r) (aa (eC g t) (jQ g j v r t)))))):=by
  unfold aS jQ;rw[jm (A:=dP g j.c.re) (k:=fun r:Rr=>r.q.id) h1 hr,jm (A:=eC g) (k:=fun t:Tr=>t.nm) h2 ht]
  ac_rfl
 have e2:aa (dB x j v) (aa (dF g v.rv j.ring) (aa (dm g v.lv j.hp) (aa (hpA g j.hp) (aa (dP g j.c.re r) (aa (eC g t) (jQ g j v r t))))))=aa (dP g j.c.re r) (aa (eC g t) (aa (dB x j v) (aa (dF g v.rv j.ring) (aa (dm g v.lv j.hp) (aa (hpA g j.hp) (jQ g j v r t)))))):=by ac_rfl
 rw[e1,e2,bn,bn];unfold dP eC;rw[bF];congr 1;funext av;rw[bF,fx];congr 1;funext wv;unfold jW
 ac_rfl
theorem kK(h:(aa (jA x g j) B).holds w F)(wf:Wf j)(hr:r∈j.reqs)(ht:t∈j.aI): ∃v av wv,(aa (aS x g j v) B).holds w F∧(jW x g j v r.q r.al t av wv (aa (jQ g j v r t) B)).holds w F:=by unfold jA at h;rw[bF]at h;obtain⟨v,h⟩:=h;obtain⟨av,wv,h2⟩:=aw h (KM wf.rid wf.mn hr ht);exact⟨v,av,wv,h,h2⟩
theorem w_shut(j':Js)(v':Dv){t':Tr}(wf:Wf j)(hr:r∈j.reqs)(ht:t∈j.aI)(eq:q.id=r.q.id)(et:t'.nm=t.nm)(e1:j'.c=j.c)(e2:j'.br=j.br)(e3:j'.reqs=j.reqs)(e4:j'.aI=j.aI)(e5:j'.pull=j.pull)(e6:v'.cm=v.cm)(e7:v'.rm=v.rm)(e8:v'.tm=v.tm)(e9:v'.pv=v.pv)(h:Goes (jW x g j' v' q al t' av wv (aa (jQ g j v r t) B)) w F w'):Goes (aa (jA x g (j'.at2 r.q.id t.nm q al t')) B) w F w':=by
 refine h.mono fun F' h'=> ?_;unfold jA;rw[bF];refine⟨v', ?_⟩;have oK:(⟨q,al⟩:Rr)∈(j'.at2 r.q.id t.nm q al t').reqs:=by show _∈upd _ _ _ _;rw[e3];exact yn (f:=fun _=>(⟨q,al⟩:Rr)) hr rfl
 have zT:t'∈(j'.at2 r.q.id t.nm q al t').aI:=by show _∈upd _ _ _ _;rw[e4];exact yn (f:=fun _=>t') ht rfl
 have m1:(j'.at2 r.q.id t.nm q al t').reqs.map (fun r=>r.q.id)=j.reqs.map fun r=>r.q.id:=by show(upd _ _ _ j'.reqs).map _=_;rw[e3];exact fp _ (fun y _ ey=>eq.trans ey.symm)
 have m2:(j'.at2 r.q.id t.nm q al t').aI.map (·.nm)=j.aI.map (·.nm):=by show(upd _ _ _ j'.aI).map _=_;rw[e4];exact fp _ (fun y _ ey=>et.trans ey.symm)
 show(aa (aS x g (j'.at2 r.q.id t.nm q al t') v') B).holds w' F';rw[KM (r:=⟨q,al⟩) (t:=t') (by rw[m1];exact wf.rid) (by rw[m2];exact wf.mn) oK zT];refine⟨av,wv,aw h' ?_⟩;have f1:(j'.at2 r.q.id t.nm q al t').reqs.filter (fun y=>decide (y.q.id≠q.id))=j.reqs.filter fun y=>decide (y.q.id≠r.q.id):=by
  show(upd _ _ _ j'.reqs).filter _=_;rw[e3,eq];unfold upd;rw[List.filter_map];have: ∀l:List Rr,(l.filter ((fun y=>decide (y.q.id≠r.q.id))∘fun z=>if z.q.id=r.q.id then⟨q,al⟩else z)).map (fun z=>if z.q.id=r.q.id then⟨q,al⟩else z)=l.filter fun y=>decide (y.q.id≠r.q.id):=by
   intro l
   induction l with
   |nil=>rfl
   |cons z l ih=>
    by_cases ez:z.q.id=r.q.id
    ·rw[List.filter_cons_of_neg (by simp[ez,eq]),List.filter_cons_of_neg (by simp[ez]),ih]
    ·rw[List.filter_cons_of_pos (by simp[ez]),List.filter_cons_of_pos (by simp[ez]),List.map_cons,if_neg ez,ih]
  exact this _
 have f2:(j'.at2 r.q.id t.nm q al t').aI.filter (fun y=>decide (y.nm≠t'.nm))=j.aI.filter fun y=>decide (y.nm≠t.nm):=by
  show(upd _ _ _ j'.aI).filter _=_;rw[e4,et];unfold upd;rw[List.filter_map];have: ∀l:List Tr,(l.filter ((fun y=>decide (y.nm≠t.nm))∘fun z=>if z.nm=t.nm then t' else z)).map (fun z=>if z.nm=t.nm then t' else z)=l.filter fun y=>decide (y.nm≠t.nm):=by
   intro l
   induction l with
   |nil=>rfl
   |cons z l ih=>
    by_cases ez:z.nm=t.nm
    ·rw[List.filter_cons_of_neg (by simp[ez,et]),List.filter_cons_of_neg (by simp[ez]),ih]
    ·rw[List.filter_cons_of_pos (by simp[ez]),List.filter_cons_of_pos (by simp[ez]),List.map_cons,if_neg ez,ih]
  exact this _
 have g1:gJ g v'.rm (j'.at2 r.q.id t.nm q al t').reqs=gJ g v.rm j.reqs:=by
  unfold gJ;rw[e7];congr 1;have: ∀l:List Rr,l.map (fun r=>(r.q.id,g.rp r.q.id))=(l.map fun r=>r.q.id).map fun i=>(i,g.rp i):=fun l=>by rw[az];rfl
  rw[this,m1,<-this]
 have g2:fW g v'.tm (j'.at2 r.q.id t.nm q al t').aI=fW g v.tm j.aI:=by
  unfold fW;rw[e8];congr 1;have: ∀l:List Tr,l.map (fun t=>(t.nm,g.tp t.nm))=(l.map fun t=>t.nm).map fun i=>(i,g.tp i):=fun l=>by rw[az];rfl
  rw[this,m2,<-this]
 have g3:jQ g (j'.at2 r.q.id t.nm q al t') v' ⟨q,al⟩ t'=jQ g j v r t:=by unfold jQ;rw[g1,g2];dsimp only;rw[f1,f2];show aa (iu v'.cm j'.br) (aa _ (aa _ (aa (all gi j'.br) (aa (all (dP g j'.c.re) _) (aa _ (gm v'.pv j'.pull))))))=_;rw[e1,e2,e5,e6,e9]
 rw[g3];rfl
theorem Rm(h:(jW x g j v q al t av wv Q).holds w F):(∀k,w.cell? ⟨x,k,none⟩=(uI j v)[k]?)∧(∀k,w.frozen? ⟨x,k,none⟩=false)∧jk w x:=by have:=bq h;exact⟨this.1,this.2.1,_,_,this.2.2⟩
theorem L4(h:(jW x g j v q al t av wv Q).holds w F):(∀k,w.cell? ⟨g.rp q.id,k,none⟩=(mD g j.c.re q av)[k]?)∧(∀k,w.frozen? ⟨g.rp q.id,k,none⟩=false)∧jk w (g.rp q.id):=by have:=bq (aw h (show _=aa (ji g j.c.re q av) (aa (dB x j v) (aa (dF g v.rv j.ring) (aa (dm g v.lv j.hp) (aa (hpA g j.hp) (aa (iM g av q.id al) (aa (jF g t wv) (aa (je g wv t.wt) Q)))))))by unfold jW;ac_rfl));exact⟨this.1,this.2.1,_,_,this.2.2⟩
theorem R6(h:(jW x g j v q al t av wv Q).holds w F):(∀k,w.cell? ⟨g.tp t.nm,k,none⟩=(Dg t wv)[k]?)∧(∀k,w.frozen? ⟨g.tp t.nm,k,none⟩=false)∧jk w (g.tp t.nm):=by have:=bq (aw h (show _=aa (jF g t wv) (aa (dB x j v) (aa (dF g v.rv j.ring) (aa (dm g v.lv j.hp) (aa (hpA g j.hp) (aa (ji g j.c.re q av) (aa (iM g av q.id al) (aa (je g wv t.wt) Q)))))))by unfold jW;ac_rfl));exact⟨this.1,this.2.1,_,_,this.2.2⟩
theorem LH(h:Goes (jW x g j v q al t av wv Q) w F w')(k:Nat)(u:Value)(q':Rq)(e:(mD g j.c.re q av).setIfInBounds k u=mD g j.c.re q' av)(ei:q'.id=q.id):Goes (jW x g j v q' al t av wv Q) w F (w'.setCell ⟨g.rp q.id,k,none⟩ u):=by
 have h2:=h.eq (show _=aa (blk (g.rp q.id) (.cells (mD g j.c.re q av) 132 (0,0))) (aa (dB x j v) (aa (dF g v.rv j.ring) (aa (dm g v.lv j.hp) (aa (hpA g j.hp) (aa (iM g av q.id al) (aa (jF g t wv) (aa (je g wv t.wt) Q)))))))by unfold jW ji;ac_rfl);refine(h2.store k u).eq ?_;rw[e,<-ei];unfold jW ji;rw[ei]
 ac_rfl
theorem LI(h:Goes (jW x g j v q al t av wv Q) w F w')(rn:Int):Goes (jW x g j v q al {t with rn:=rn} av wv Q) w F (w'.setCell ⟨g.tp t.nm,2,none⟩ (.int .i64 rn)):=by
 have h2:=h.eq (show _=aa (blk (g.tp t.nm) (.cells (Dg t wv) 92 (0,0))) (aa (dB x j v) (aa (dF g v.rv j.ring) (aa (dm g v.lv j.hp) (aa (hpA g j.hp) (aa (ji g j.c.re q av) (aa (iM g av q.id al) (aa (je g wv t.wt) Q)))))))by unfold jW jF;ac_rfl);refine(h2.store 2 (.int .i64 rn)).eq ?_;show aa (jF g {t with rn:=rn} wv) _=_;unfold jW
 ac_rfl
theorem OQ(h:Goes (jW x g j v q al t av wv Q) w F w')(b:Nat):Goes (jW x g {j with begun:=b} v q al t av wv Q) w F (w'.setCell ⟨x,12,none⟩ (.int .i64 b)):=by have h2:=h.eq (show _=aa (blk x (.cells (uI j v) 88 (0,0))) (aa (dF g v.rv j.ring) (aa (dm g v.lv j.hp) (aa (hpA g j.hp) (aa (ji g j.c.re q av) (aa (iM g av q.id al) (aa (jF g t wv) (aa (je g wv t.wt) Q)))))))by unfold jW dB;rfl);exact h2.store 12 (.int .i64 b)
theorem LG(h:(jW x g j v q al t av wv Q).holds w F): ∃G,(iM g av q.id al).holds w G∧ ∀U6 DA w2,Goes (iM g DA q.id U6) w G w2->w2.cell? ⟨g.rp q.id,7,none⟩=some av∧w2.frozen? ⟨g.rp q.id,7,none⟩=false∧Goes (jW x g j v q U6 t DA wv Q) w F (w2.setCell ⟨g.rp q.id,7,none⟩ DA):=by
 have h2:=aw h (show _=aa (iM g av q.id al) (aa (ji g j.c.re q av) (aa (dB x j v) (aa (dF g v.rv j.ring) (aa (dm g v.lv j.hp) (aa (hpA g j.hp) (aa (jF g t wv) (aa (je g wv t.wt) Q)))))))by unfold jW;ac_rfl);obtain⟨G,H,ha,hb,d,e⟩:=h2;refine⟨G,ha,fun U6 DA w2 hg=> ?_⟩;have g1:=aH hb hg d e;have g2:=g1.eq (show _=aa (blk (g.rp q.id) (.cells (mD g j.c.re q av) 132 (0,0))) (aa (iM g DA q.id U6) (aa (dB x j v) (aa (dF g v.rv j.ring) (aa (dm g v.lv j.hp) (aa (hpA g j.hp) (aa (jF g t wv) (aa (je g wv t.wt) Q)))))))by unfold ji;ac_rfl);obtain⟨F2,gl,_⟩:=id g2;obtain⟨cl,fz,_⟩:=bq gl;refine⟨cl 7,fz 7,(g2.store 7 DA).eq ?_⟩;show aa (ji g j.c.re q DA) _=_;unfold jW
 ac_rfl
theorem Yv(h:(jW x g j v q al t av wv Q).holds w F): ∃G,(dY x (uI j v) g v.lv j.hp).holds w G∧ ∀aX jw R w2,Goes (aa (dY x ((uI j v).setIfInBounds 11 jw) g jw aX) R) w G w2->Goes (jW x g {j with hp:=aX} {v with lv:=jw} q al t av wv (aa Q R)) w F w2:=by
 have h2:=aw h (show _=aa (dY x (uI j v) g v.lv j.hp) (aa (dF g v.rv j.ring) (aa (ji g j.c.re q av) (aa (iM g av q.id al) (aa (jF g t wv) (aa (je g wv t.wt) Q)))))by unfold jW dY vu dB;ac_rfl);obtain⟨G,H,ha,hb,d,e⟩:=h2;refine⟨G,ha,fun aX jw R w2 hg=> ?_⟩;refine(aH hb hg d e).eq ?_;have:dY x ((uI j v).setIfInBounds 11 jw) g jw aX=aa (dB x {j with hp:=aX} {v with lv:=jw}) (aa (dm g jw aX) (hpA g aX)):=rfl;rw[this];unfold jW;dsimp only
 ac_rfl
theorem w_at(h:(jW x g j v q al t av wv Q).holds w F): ∀i (hi:i<j.hp.length),w.heap[g.ap (key j.hp[i])]?=some (.cells (kO g j.hp[i] i) 126 (0,0)):=by
 have h4:=aw h (show _=aa (hpA g j.hp) (aa (dB x j v) (aa (dF g v.rv j.ring) (aa (dm g v.lv j.hp) (aa (ji g j.c.re q av) (aa (iM g av q.id al) (aa (jF g t wv) (aa (je g wv t.wt) Q)))))))by unfold jW;ac_rfl);intro i hi;have hz:i<j.hp.zipIdx.length:=by simpa using hi
 have h5:=aw h4 (show _=aa (eN g j.hp[i] i) (aa (all (fun x:At×Nat=>eN g x.1 x.2) (j.hp.zipIdx.eraseIdx i)) (aa (dB x j v) (aa (dF g v.rv j.ring) (aa (dm g v.lv j.hp) (aa (ji g j.c.re q av) (aa (iM g av q.id al) (aa (jF g t wv) (aa (je g wv t.wt) Q))))))))by unfold hpA;rw[wX hz,bn];simp)
 exact(bQ h5).1
