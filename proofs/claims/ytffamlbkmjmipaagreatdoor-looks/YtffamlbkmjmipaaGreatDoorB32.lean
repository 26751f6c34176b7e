import Derived.Test.YtffamlbkmjmipaaGreatDoorB06
import Derived.Test.YtffamlbkmjmipaaGreatDoorB21
import Derived.Test.YtffamlbkmjmipaaGreatDoorB22
set_option maxHeartbeats 8000000
set_option maxRecDepth 100000
namespace Go.Proofs.YtffamlbkmjmipaaGreatDoor
open _root_.Go.Proofs.Tryz
namespace Pj
open Go.RowKit aM Mc
attribute [local go_sem] ag ar
variable{w:World}{F:Ft}
theorem ft{A:aM}{w2:World}{o:Obj}(h:Goes A (w.alloc o) F w2):Goes A w F w2:=aF ((Only.refl F w).alloc o) (fun _ h=> .inl h) h
theorem fM{A:aM}(h:A.holds w F)(o:Obj):A.holds (w.alloc o) F:=A.keep h (fun k hk=>Below.heap_alloc w o k (A.lt h k hk))
theorem P5:(prog.info? 89).map (fun i=>(i.zero,i.size,i.bytes))=some (some (.pointer none),1,8):=by kernel_rfl
theorem nX(x:Nat)(g:Gh)(j:Js)(r:Rr)(t:Tr)(first:Bool)(w:World)(F:Ft)(h:(jA x g j).holds w F)(wf:Wf j)(hr:r∈j.reqs)(ht:t∈j.aW)(et:t.nm=r.q.ten)(pl:Int)(Ej:pl=if first then 0 else(t.wt.length:Int)):Calls prog 117 #[pt x,pt (g.rp r.q.id), .int .i64 pl] w fun e w'=>e= .returned (.tuple #[])∧Goes (jA x g (j.wait t r.q.id first)) w F w':=by
 obtain⟨i0,kR,gI,dN,fS⟩:=ia P5;obtain⟨v,av,wv,ho,u9⟩:=xG h wf hr ht;have c2:w.cell? ⟨g.rp r.q.id,2,none⟩=some (pt (g.tp t.nm)):=by rw[(YK u9).1,et];rfl
 have c1:w.cell? ⟨g.tp t.nm,1,none⟩=some wv:=(M8 u9).1 1;obtain⟨G0,pD,_⟩:=uk u9;obtain⟨ao,cap,rfl⟩:=aX (Goes.refl pD);have hb1:=wf.b1 t ht;have bN:=wf.b2;obtain⟨f,hf⟩: ∃f:Tr->Tr,f=fun y=>{y with wt:=if first then r.q.id::y.wt else y.wt++ [r.q.id]}:=⟨_,rfl⟩;have Sa:f t={t with wt:=if first then r.q.id::t.wt else t.wt++ [r.q.id]}:=by rw[hf]
 have ZQ:Hid (∀ring rv w3 N,N=w3.heap.size->Goes (vg x g j v r.q r.al t ring rv av (.slice ao t.wt.length cap) (jR g j v r t)) w F w3->
   w3.cell? ⟨g.tp t.nm,1,none⟩=some (.slice ao t.wt.length cap)∧
   Calls prog 153 #[.slice ao t.wt.length cap, .int .i64 pl, .slice (some ⟨N,0,none⟩) 1 1] (w3.alloc (.cells #[pt (g.rp r.q.id)] 124)) fun e w'=> ∃Lh n4 Ls,e= .returned (.slice Lh n4 Ls)∧w'.cell? ⟨g.tp t.nm,1,none⟩=some (.slice ao t.wt.length cap)∧w'.frozen? ⟨g.tp t.nm,1,none⟩=false∧
    Goes (jA x g {j with ring:=ring,aW:=upd (fun t:Tr=>t.nm) t.nm f j.aW}) w F (w'.setCell ⟨g.tp t.nm,1,none⟩ (.slice Lh n4 Ls))):=fun ring rv w3 N hN hg=>by
  subst hN;obtain⟨F3,iX,o3,n3⟩:=hg;refine⟨(M8 iX).1 1, ?_⟩;obtain⟨G3,Kr,HS⟩:=uk iX;have hnG: ¬G3 w3.heap.size:=fun hk=>by have:=aM.lt _ Kr _ hk;omega
  have aaT:=Yk (.slice ao t.wt.length cap) t.wt g.rp r.q.id first w3.heap.size _ G3 (fM Kr (.cells #[pt (g.rp r.q.id)] 124)) (by omega) (heap_alloc_new w3 _) hnG
  rw[<-Ej]at aaT;refine aaT.mono ?_;rintro e w'⟨v',rfl,kQ⟩;obtain⟨Lh,Ls,rfl⟩:=aX kQ;obtain⟨p1,p2,p3⟩:=HS _ _ w' (ft kQ);refine⟨Lh,_,Ls,rfl,p1,p2, ?_⟩;have p4:=aF o3 n3 p3;rw[<-Sa]at p4;exact uj wf hr ht f (by rw[Sa]) ring rv av _ p4
 have HRI:Hid (∃G1 dP kn,w.cell? ⟨x,9,none⟩=some (.slice dP j.ring.length kn)∧(rowA 89 1 (.slice dP j.ring.length kn) j.ring.length (j.ring.map fun n=>pt (g.tp n))).holds (w.alloc (.cells #[pt (g.tp t.nm)] 89)) G1∧
   ∀cU b9 w2,Goes (rowA 89 1 (.slice cU (j.ring.length+1) b9) (j.ring.length+1) ((j.ring.map fun n=>pt (g.tp n))++ [pt (g.tp t.nm)])) (w.alloc (.cells #[pt (g.tp t.nm)] 89)) G1 w2->
    w2.cell? ⟨x,9,none⟩=some (.slice dP j.ring.length kn)∧w2.frozen? ⟨x,9,none⟩=false∧Goes (vg x g j v r.q r.al t (j.ring++ [t.nm]) (.slice cU (j.ring.length+1) b9) av (.slice ao t.wt.length cap) (jR g j v r t)) w F (w2.setCell ⟨x,9,none⟩ (.slice cU (j.ring.length+1) b9))):=by
  obtain⟨G1,lH,HS⟩:=CD u9;obtain⟨dP,kn,e1⟩:=aX (Goes.refl lH);have c9:w.cell? ⟨x,9,none⟩=some v.rv:=(YJ u9).1 9;refine⟨G1,dP,kn,by rw[c9,e1], ?_,fun cU b9 w2 hg=> ?_⟩
  ·have:=fM lH (.cells #[pt (g.tp t.nm)] 89);rw[e1]at this;exact this
  ·obtain⟨p1,p2,p3⟩:=HS (j.ring++ [t.nm]) (.slice cU (j.ring.length+1) b9) w2 (by
    unfold fK;rw[aN,aH];exact ft hg)
   exact⟨by rw[p1,e1],p2,p3⟩
 have vJ:Hid (Goes (vg x g j v r.q r.al t j.ring v.rv av (.slice ao t.wt.length cap) (jR g j v r t)) w F w):=Goes.refl u9;have hwf:Hid (if t.wt= []then j.wait t r.q.id first={j with ring:=j.ring++ [t.nm],aW:=upd (fun t:Tr=>t.nm) t.nm f j.aW}else j.wait t r.q.id first={j with ring:=j.ring,aW:=upd (fun t:Tr=>t.nm) t.nm f j.aW}):=by
  by_cases he:t.wt= []
  ·show(if _ then _ else _);rw[if_pos he];unfold Js.wait;rw[if_pos he,hf]
  ·show(if _ then _ else _);rw[if_neg he];unfold Js.wait;rw[if_neg he,hf]
 clear h ho u9 pD wf hr ht Sa hf Ej;unfold pt at*;generalize g.tp t.nm=tp at*;generalize g.rp r.q.id=rp at*;by_cases he:t.wt= []
 ·have ej:Hid (j.wait t r.q.id first={j with ring:=j.ring++ [t.nm],aW:=upd (fun t:Tr=>t.nm) t.nm f j.aW}):=by have:=hwf.out;rw[if_pos he]at this;exact this
  obtain⟨G1,dP,kn,c9,pH,HS⟩:=HRI.out;have fy:=hide pH;have HS':=hide HS;have Me:t.wt.length=0:=by rw[he];rfl
  clear HRI vJ hwf pH HS he;generalize t.wt.length=nw at*;subst Me;generalize j.ring.length=nr at*;go_enter func117,ntmps117;go_wp2_with (first
   |(at_builtin;go_must(refine aC _ rfl _ _ 84 rfl 89 i0 (.pointer none) 1 8 underlying84 kR gI dN fS rfl (by decide) (F:=G1) _ nr _ rfl fy.out ⟨w.heap.size,0,none⟩ 1 1 [.pointer (some ⟨tp,0,none⟩)] rfl rfl (World.news_of_block (cs:= #[.pointer (some ⟨tp,0,none⟩)]) (t:=89) (fr:=(0,0)) (heap_alloc_new w _)) (by simp[Value.oneCell']) (by unfold maxLen;omega) (by omega) ?_;intro cU b9 w2 bK;obtain⟨d1,d2,d3⟩:=HS'.out cU b9 w2 bK;obtain⟨d4,d5⟩:=ZQ.out _ _ _ w2.heap.size (by simp[World.setCell]) d3;have HI:=hide d5;clear bK d3 d5))
   |(go_at_call 153;go_must(refine HI.out.mono ?_;rintro e w5⟨Lh,n4,Ls,rfl,f1,f2,f3⟩;have HE:=hide f3;clear f3)))
  go_end0;rw[ej.out];exact⟨rfl,HE.out⟩
 ·have ej:Hid (j.wait t r.q.id first={j with ring:=j.ring,aW:=upd (fun t:Tr=>t.nm) t.nm f j.aW}):=by have:=hwf.out;rw[if_neg he]at this;exact this
  have Me:(((t.wt.length:Nat):Int)==0)=false:=by have:t.wt.length≠0:=fun e=>he (List.eq_nil_of_length_eq_zero e);simpa using this
  obtain⟨_,d5⟩:=ZQ.out _ _ _ _ rfl vJ.out;have HI:=hide d5;clear HRI vJ hwf ZQ d5 he;generalize t.wt.length=nw at*;go_enter func117,ntmps117;go_wp2_with (first
   |(go_at_call 153;go_must(refine HI.out.mono ?_;rintro e w5⟨Lh,n4,Ls,rfl,f1,f2,f3⟩;have HE:=hide f3;clear f3)))
  go_end0;rw[ej.out];exact⟨rfl,HE.out⟩
theorem AD(x:Nat)(g:Gh)(j:Js)(r:Rr)(t:Tr)(w:World)(F:Ft)(h:(jA x g j).holds w F)(wf:Wf j)(hr:r∈j.reqs)(ht:t∈j.aW)(et:t.nm=r.q.ten):Calls prog 83 #[pt x,pt (g.rp r.q.id)] w fun e w'=>e= .returned (.tuple #[])∧Goes (jA x g (j.wait t r.q.id true)) w F w':=by have HW:=nX x g j r t true w F h wf hr ht et 0 rfl;clear h;unfold pt at*;go_enter func83,ntmps83;go_wp2_with (first|(go_at_call 117;go_must(refine HW.mono ?_;rintro e w1⟨rfl,hg⟩;have HG:=hide hg;clear hg)));go_end0;exact⟨rfl,HG.out⟩
theorem CP(x:Nat)(g:Gh)(j:Js)(r:Rr)(t:Tr)(w:World)(F:Ft)(h:(jA x g j).holds w F)(wf:Wf j)(hr:r∈j.reqs)(ht:t∈j.aW)(et:t.nm=r.q.ten):Calls prog 70 #[pt x,pt (g.rp r.q.id)] w fun e w'=>e= .returned (.tuple #[])∧Goes (jA x g (j.wait t r.q.id false)) w F w':=by
 have HW:=nX x g j r t false w F h wf hr ht et t.wt.length rfl;obtain⟨v,av,wv,ho,u9⟩:=xG h wf hr ht;have c2:w.cell? ⟨g.rp r.q.id,2,none⟩=some (pt (g.tp t.nm)):=by rw[(YK u9).1,et];rfl
 have c1:w.cell? ⟨g.tp t.nm,1,none⟩=some wv:=(M8 u9).1 1;obtain⟨G0,pD,_⟩:=uk u9;obtain⟨ao,cap,rfl⟩:=aX (Goes.refl pD);have hb1:=wf.b1 t ht;clear h ho u9 pD;unfold pt at*;generalize g.tp t.nm=tp at*;go_enter func70,ntmps70;go_wp2_with (first|(go_at_call 117;go_must(refine HW.mono ?_;rintro e w1⟨rfl,hg⟩;have HG:=hide hg;clear hg)));go_end0;exact⟨rfl,HG.out⟩
theorem RJ{α κ:Type} [DecidableEq κ](k:α->κ)(c:κ)(l:List α):upd k c (fun y=>y) l=l:=by unfold upd;refine(bY fun x _=> ?_).trans (List.map_id _);split<;>rfl
def Js.turn(j:Js)(t:Tr):Js:={j with ring:=if t.wt= []then j.ring else j.ring.erase t.nm++ [t.nm]}
theorem RI(x:Nat)(g:Gh)(j:Js)(r:Rr)(t:Tr)(w:World)(F:Ft)(h:(jA x g j).holds w F)(wf:Wf j)(hr:r∈j.reqs)(ht:t∈j.aW):Calls prog 75 #[pt x,pt (g.tp t.nm)] w fun e w'=>e= .returned (.tuple #[])∧Goes (jA x g (j.turn t)) w F w':=by
 obtain⟨i0,kR,gI,dN,fS⟩:=ia P5;obtain⟨v,av,wv,ho,u9⟩:=xG h wf hr ht;have c1:w.cell? ⟨g.tp t.nm,1,none⟩=some wv:=(M8 u9).1 1;obtain⟨G0,pD,_⟩:=uk u9;obtain⟨ao,cap,rfl⟩:=aX (Goes.refl pD);have hb1:=wf.b1 t ht;have bN:=wf.b2;have wK:=hide (Goes.refl h);by_cases he:t.wt= []
 ·have ej:j.turn t=j:=by unfold Js.turn;rw[if_pos he]
  rw[ej];have Me:t.wt.length=0:=by rw[he];rfl
  clear h ho u9 pD;unfold pt at*;generalize g.tp t.nm=tp at*;generalize t.wt.length=nw at*;subst Me;go_enter func75,ntmps75;go_wp2;go_end0;exact⟨rfl,wK.out⟩
 ·have ej:Hid (j.turn t={j with ring:=j.ring.erase t.nm++ [t.nm],aW:=upd (fun t:Tr=>t.nm) t.nm (fun y=>y) j.aW}):=by show(_=_);unfold Js.turn;rw[if_neg he,RJ]
  have Me:0<t.wt.length:=List.length_pos_iff.2 he;have adK:((0:Int)<((t.wt.length:Nat):Int)):=by omega
  obtain⟨G1,lH,HS⟩:=CD u9;obtain⟨dP,kn,e1⟩:=aX (Goes.refl lH);have c9:w.cell? ⟨x,9,none⟩=some (.slice dP j.ring.length kn):=by rw[(YJ u9).1 9];show some v.rv=_;rw[e1]
  obtain⟨t1,t2,t3⟩:=Q9 ho wf ht;have NM:=woT v.rv j.ring g.tp t.nm w G1 lH t1 t2 t3 (by omega);rw[e1]at NM;have hel:(j.ring.erase t.nm).length<=16777210:=aw (List.length_erase_le ..) bN;have Sq:Hid (∀v2 w1,Goes (rowA 89 1 v2 (j.ring.erase t.nm).length ((j.ring.erase t.nm).map fun n=>pt (g.tp n))) w G1 w1->
    ∃cU b9 G2,v2= .slice cU (j.ring.erase t.nm).length b9∧(rowA 89 1 (.slice cU (j.ring.erase t.nm).length b9) (j.ring.erase t.nm).length ((j.ring.erase t.nm).map fun n=>pt (g.tp n))).holds (w1.alloc (.cells #[pt (g.tp t.nm)] 89)) G2∧
    ∀iN eA w3,Goes (rowA 89 1 (.slice iN ((j.ring.erase t.nm).length+1) eA) ((j.ring.erase t.nm).length+1) (((j.ring.erase t.nm).map fun n=>pt (g.tp n))++ [pt (g.tp t.nm)])) (w1.alloc (.cells #[pt (g.tp t.nm)] 89)) G2 w3->
     w3.cell? ⟨x,9,none⟩=some (.slice dP j.ring.length kn)∧w3.frozen? ⟨x,9,none⟩=false∧Goes (jA x g {j with ring:=j.ring.erase t.nm++ [t.nm],aW:=upd (fun t:Tr=>t.nm) t.nm (fun y=>y) j.aW}) w F (w3.setCell ⟨x,9,none⟩ (.slice iN ((j.ring.erase t.nm).length+1) eA))):=fun v2 w1 hg=>by
   obtain⟨cU,b9,rfl⟩:=aX hg;obtain⟨G2,pw,o2,n2⟩:=hg;refine⟨cU,b9,G2,rfl,fM pw _,fun iN eA w3 mW=> ?_⟩;have kI:=aF o2 n2 (ft mW);obtain⟨p1,p2,p3⟩:=HS (j.ring.erase t.nm++ [t.nm]) (.slice iN ((j.ring.erase t.nm).length+1) eA) w3 (by unfold fK;rw[aN,aH];exact kI)
   exact⟨by rw[p1,e1],p2,uj wf hr ht (fun y=>y) rfl _ _ _ _ p3⟩
  rw[Dn]at NM;clear h ho u9 pD lH HS wK t1 t2 t3 he e1;unfold pt at*;generalize g.tp t.nm=tp at*;generalize t.wt.length=nw at*;generalize cC:(j.ring.erase t.nm).length=ne at*;generalize j.ring.length=nr at*;go_enter func75,ntmps75;go_wp2_with (first
   |(go_at_call 120;go_must(refine NM.mono ?_;rintro e w1⟨v2,rfl,hg⟩;obtain⟨cU,b9,G2,rfl,d1,d2⟩:=Sq.out v2 w1 hg;have fy:=hide d1;have Ss:=hide d2;clear hg d1 d2))
   |(at_builtin;go_must(refine aC _ rfl _ _ 84 rfl 89 i0 (.pointer none) 1 8 underlying84 kR gI dN fS rfl (by decide) (F:=G2) _ ne _ rfl fy.out ⟨w1.heap.size,0,none⟩ 1 1 [.pointer (some ⟨tp,0,none⟩)] rfl rfl (World.news_of_block (cs:= #[.pointer (some ⟨tp,0,none⟩)]) (t:=89) (fr:=(0,0)) (heap_alloc_new w1 _)) (by simp[Value.oneCell']) (by unfold maxLen;omega) (by omega) ?_;intro iN eA w3 bK;obtain⟨d3,d4,d5⟩:=Ss.out iN eA w3 bK;have HE:=hide d5;clear bK d5)))
  go_end0;rw[ej.out];exact⟨rfl,HE.out⟩
theorem DL: ∀(f u:Nat),u<10 ^(f+1)->pV (f+1) u=Lib.decDigits u
 |0,u,h=>by unfold pV;rw[Lib.decDigits,if_pos (by omega),dif_pos (by omega)]
 |f+1,u,h=>by
  unfold pV;rw[Lib.decDigits];by_cases h0:u<10
  ·rw[if_pos h0,dif_pos h0]
  ·rw[if_neg h0,dif_neg h0,DL f (u/10) (by rw[Nat.pow_succ]at h;omega)]
inductive Part where
 |s (b:Bs)
 |n (x:Int)
def Part.txt:Part->Bs
 | .s b=>b
 | .n x=>cJ x
def Part.val:Part->Value
 | .s b=> .iface 9 (bs b)
 | .n x=> .iface 3 (.int .i64 x)
def Part.ok:Part->Prop
 | .s b=>b.length<=64
 | .n x=>0<=x∧x<=9223372036854775807
def said(ps:List Part):Bs:=Lib.join (ps.map Part.txt) [32]
def wD(tb:Nat)(out:List (Int×Bs)):aM:=ex fun ov=>aa (blk tb (.cells #[ov] 94 (0,0))) (Mr.iB ov out)
theorem Pa{x:Int}(h:0<=x∧x<=9223372036854775807):Lib.itoa x=cJ x:=by unfold Lib.itoa cJ;rw[if_neg (by omega),DL 19 _ (by omega)]
theorem asS(v:Value)(w:World):(Instr.typeAssert (.iface 9 v) 20 9 true).run prog w= .ok (.tuple #[v, .bool true]) w:=by kernel_rfl
theorem asN(v:Value)(w:World):(Instr.typeAssert (.iface 3 v) 20 9 true).run prog w= .ok (.tuple #[.string ⟨#[]⟩, .bool false]) w:=by kernel_rfl
theorem asI(v:Value)(w:World):(Instr.typeAssert (.iface 3 v) 20 3 true).run prog w= .ok (.tuple #[v, .bool true]) w:=by kernel_rfl
theorem B9:(prog.info? 9).map (fun i=>(i.zero,i.size,i.bytes))=some (some (.string ⟨#[]⟩),1,16):=by kernel_rfl
theorem Uj:(prog.info? 51).map (fun i=>(i.zero,i.size,i.bytes))=some (some (.agg #[.int .i64 0, .string ⟨#[]⟩]),2,24):=by kernel_rfl
theorem OG:Builder.Extra prog Ew:={sizeBuilder:=by kernel_rfl,liesBuilder:=by kernel_rfl,t5:=underlying5,a5:=isAgg5,z5:=sizeOf5,v5:=zeroValue5,infoByte:=by kernel_rfl,cellsByte:=by kernel_rfl,sizeByte:=by kernel_rfl,neB5:=by decide}
theorem Dl{w w1 w2:World}(h:Below w.heap.size w w1)(h2:Below w1.heap.size w1 w2):Below w.heap.size w w2:=
 ⟨h2.os.trans h.os,h2.tape.trans h.tape,h2.output.trans h.output,aw h.size h2.size,fun k hk=>(h2.block k (bP hk h.size)).trans (h.block k hk)⟩
theorem below_grow(w:World)(k:Nat)(os:Array Obj):Below w.heap.size w (Go.Sort.grow (w.drewN k) os):=by refine⟨rfl,rfl,rfl,by simp[Go.Sort.grow],fun i hi=> ?_⟩;show(w.heap++os)[i]?=w.heap[i]?;rw[Array.getElem?_append_left hi]
theorem mL(tb:Nat)(c:Int)(ps:List Part)(pb po cp:Nat)(out:List (Int×Bs))(w:World)(F:Ft)(h:(wD tb out).holds w F)(hps: ∀k p,ps[k]?=some p->w.cell? ⟨pb,po+k,none⟩=some p.val)(qM:0<ps.length)(hn:ps.length<=16)(hpb:pb<w.heap.size)(Ah: ∀p∈ps,p.ok)(hlen:(said ps).length<=1048576)(Ir:out.length<=134217728)(hT: ∀w',Below w.heap.size w w'->Lib.TabIs prog w' "internal/strconv.uint64pow10" .u64 Lib.pow10Tab):Calls prog 89 #[pt tb, .int .i64 c, .slice (some ⟨pb,po,none⟩) ps.length cp] w fun e w'=>e= .returned (.tuple #[])∧Goes (wD tb (out++ [(c,said ps)])) w F w':=by
 obtain⟨i0,kR,gI,dN,fS⟩:=ia B9;obtain⟨i1,GP,PY,PZ,P0⟩:=ia Uj;have HP:=hide hps;have HT:=hide hT;have GI:=hide Ah;have HH:=hide h;have wL:=hide hlen;clear hps hT Ah h hlen;unfold pt;obtain⟨Z,hZ,hmk⟩: ∃Z:Array Value,Z.size=ps.length∧(Instr.makeSlice 37 (.int .i64 0) (.int .i64 (ps.length:Int))).run prog w= .ok (.slice (some ⟨w.heap.size,0,none⟩) 0 ps.length) (w.alloc (.cells Z 9)):=by have:=run_makeSlice (P:=prog) w 37 9 i0 (.string ⟨#[]⟩) underlying37 kR gI .i64 .i64 0 (ps.length:Int) (by omega) (by omega) (by rw[dN];simp;omega) (by rw[fS];omega) (by omega);refine⟨_, ?_,this⟩;simp[madeCells,dN]
 go_enter func89,ntmps89;go_wp2;go_loopw [6,17] (fun lv i wr=> ∃k:Nat,k<=ps.length∧i= .int .i64 k∧ ∃dP eQ,lv= .slice dP k eQ∧Hid (Goes (rowA 9 1 (.slice dP k eQ) k ((ps.take k).map fun p=>bs p.txt)) w (fun _=>False) wr)) (fun _ i _=>ps.length-(intOf i).toNat)
 case atStart=>refine⟨0,aJ _,rfl,some ⟨w.heap.size,0,none⟩,ps.length,rfl, ?_⟩;show Goes _ _ _ _;refine⟨fun k=>k=w.heap.size,⟨by simp, .inr ⟨w.heap.size,0,ps.length,Z,rfl,fun k=>Iff.rfl,heap_alloc_new w _,aJ _,by unfold maxLen;omega,by omega,by simp⟩⟩,(Only.refl _ _).alloc _,fun k hk=> .inr (by omega)⟩
 case round=>
  obtain⟨k,hk,rfl,dP,eQ,rfl,HN⟩:=hrel;have hB:=jG HN.out;have cg:=hB.size;by_cases ay:k<ps.length
  ·have c0:wr.cell? ⟨pb,po+k,none⟩=some (ps[k]'ay).val:=by
    rw[hB.cell (p:=⟨pb,po+k,none⟩) hpb];exact HP.out k _ (a7 ay)
   have Ub:=GI.out _ (aY ay);obtain⟨Gr,kG,Jf,GZ⟩:=HN.out;have iP:Hid ((ps.take (k+1)).map (fun p=>bs p.txt)=(ps.take k).map (fun p=>bs p.txt)++ [bs (ps[k]'ay).txt]):=by show(_=_);rw[fp ay,aH];rfl
   have Zt:Hid (∀(b:Bs) (wa:World) (cU:Option Addr) (gz:Nat) (w2:World),bs (ps[k]'ay).txt=bs b->Only (fun _=>False) w wa->Goes (rowA 9 1 (.slice cU (k+1) gz) (k+1) (((ps.take k).map fun p=>bs p.txt)++ [.string ⟨b.toArray⟩])) wa Gr w2->Goes (rowA 9 1 (.slice cU (k+1) gz) (k+1) ((ps.take (k+1)).map fun p=>bs p.txt)) w (fun _=>False) w2):=fun b wa cU gz w2 e o hg=>by rw[iP.out,e];exact aF o GZ hg
   have fy:=hide kG;have HOO:=hide Jf;clear HN kG Jf GZ;cases j6:(ps[k]'ay)with
   |s b=>
    have HEB:Hid (bs (ps[k]'ay).txt=bs b):=by show(_=_);rw[j6];rfl
    rw[j6]at c0;have c0':wr.cell? ⟨pb,po+k,none⟩=some (.iface 9 (.string ⟨b.toArray⟩)):=c0;have hta: ∀w,_:=fun w=>asS (.string ⟨b.toArray⟩) w;have BO:k<=16:=by omega
    clear c0 j6 Ub;go_wp2_with (first
     |(at_builtin;go_must(refine aC _ rfl _ _ 37 rfl 9 i0 (.string ⟨#[]⟩) 1 16 underlying37 kR gI dN fS rfl (by decide) (F:=Gr) _ k ((ps.take k).map fun p:Part=>bs p.txt) rfl (Mr.au fy.out ((ah _ _).alloc (ae _) _)) ⟨wr.heap.size,0,none⟩ 1 1 [.string ⟨b.toArray⟩] rfl rfl (World.news_of_block (cs:= #[.string ⟨b.toArray⟩]) (t:=9) (fr:=(0,0)) (heap_alloc_new wr _)) (by simp[Value.oneCell']) (by unfold maxLen;omega) (by omega) ?_;intro cU gz w2 bK;have pn:=hide (Zt.out b _ cU gz w2 HEB.out (HOO.out.alloc _) bK);clear bK)))
    go_roundw
    case rel=>exact⟨k+1,by omega,by go_num,cU,gz,by first|rfl|go_num,pn⟩
    case measure=>simp[intOf];omega
   |n y=>
    have HEB:Hid (bs (ps[k]'ay).txt=bs (cJ y)):=by show(_=_);rw[j6];rfl
    rw[j6]at c0 Ub;have abf:0<=y∧y<=9223372036854775807:=Ub;have c0':wr.cell? ⟨pb,po+k,none⟩=some (.iface 3 (.int .i64 y)):=c0;have hta: ∀w,_:=fun w=>asN (.int .i64 y) w;have GS: ∀w,_:=fun w=>asI (.int .i64 y) w;have HIT:=Any.strconv_Itoa itoa y (by omega) abf.2 wr (HT.out wr hB);change Calls prog 135 _ _ _ at HIT;rw[Pa abf]at HIT;have BO:k<=16:=by omega
    clear c0 j6 Ub;go_wp2_with (first
     |(go_at_call 135;go_must(refine HIT.mono ?_;rintro e w1⟨rfl,q1,os1,kK⟩;have hb1:=below_grow wr q1 os1;rw[<-kK]at hb1;have YZ:=hide hb1;clear kK hb1))
     |(at_builtin;go_must(refine aC _ rfl _ _ 37 rfl 9 i0 (.string ⟨#[]⟩) 1 16 underlying37 kR gI dN fS rfl (by decide) (F:=Gr) _ k ((ps.take k).map fun p:Part=>bs p.txt) rfl (Mr.au (Mr.au fy.out YZ.out) ((ah _ _).alloc (ae _) _)) ⟨w1.heap.size,0,none⟩ 1 1 [.string ⟨(cJ y).toArray⟩] rfl rfl (World.news_of_block (cs:= #[.string ⟨(cJ y).toArray⟩]) (t:=9) (fr:=(0,0)) (heap_alloc_new w1 _)) (by simp[Value.oneCell']) (by unfold maxLen;omega) (by omega) ?_;intro cU gz w2 bK;have pn:=hide (Zt.out (cJ y) _ cU gz w2 HEB.out ((HOO.out.below YZ.out).alloc _) bK);clear bK)))
    go_roundw
    case rel=>exact⟨k+1,by omega,by go_num,cU,gz,by first|rfl|go_num,pn⟩
    case measure=>simp[intOf];omega
  ·obtain rfl:k=ps.length:=by omega
   obtain⟨Gr,kG,Jf,GZ⟩:=HN.out;rw[List.take_length]at kG;obtain⟨ov,hH⟩:=HH.out;obtain⟨G1,G2,hb1,hou,dd,ee⟩:=hH;obtain⟨oo,QM,rfl,_⟩:=bC hou;have GS:tb<w.heap.size:=(cT.1 hb1.1).1;obtain⟨g',off,rfl⟩: ∃g' off,dP=some ⟨g',off,none⟩:=by obtain⟨_,_,e1,_,_,h4,_⟩:=bC kG;cases e1;obtain⟨g',off,e2,_⟩:=h4 qM;exact⟨g',off,e2⟩
   have L1:ps.length<=eQ:=by obtain⟨_,_,e1,h2,_⟩:=bC kG;cases e1;exact h2
   have HJ:Hid (Calls prog 136 #[.slice (some ⟨g',off,none⟩) ps.length eQ, .string ⟨#[32]⟩] wr fun e w'=>e= .returned (.string ⟨(said ps).toArray⟩)∧Below wr.heap.size wr w'):=by
    have em:(ps.map fun p=>(⟨p.txt.toArray⟩:ByteArray)).map (·.data.toList)=ps.map Part.txt:=by rw[aG];exact bY fun p _=>by simp
    have:=Any.strings_Join join OG g' off eQ (ps.map fun p=>(⟨p.txt.toArray⟩:ByteArray)) ⟨#[32]⟩ wr (fun j x hx=>by
     rw[List.getElem?_map]at hx;cases hj:ps[j]? with
     |none=>rw[hj]at hx;cases hx
     |some p=>rw[hj]at hx;have eP:j<ps.length:=(cK.1 hj).1;rw[bm kG j (by omega),List.getElem?_map,hj];simp only[Option.map_some,Option.some.injEq]at hx⊢;rw[<-hx];rfl) (dK kG).1 (by simp;omega) (by simpa using L1) (by rw[em];have:=wL.out;unfold said at this;exact aw this (by omega))
    rw[em,bf]at this;exact this
   have pC:Hid (∀w2,Calls prog 46 #[.string ⟨(said ps).toArray⟩] w2 fun e w'=>e= .returned (.string ⟨(aL.line (said ps)).toArray⟩)∧Below w2.heap.size w2 w'):=fun w2=>by have:=aL.uD ⟨(said ps).toArray⟩ w2 (by have:=wL.out;simpa[ByteArray.size]using this);simpa using this
   have fg:Hid (∀w3,Below w.heap.size w w3->w3.cell? ⟨tb,0,none⟩=some (.slice oo out.length QM)∧(rowA 51 2 (.slice oo out.length QM) out.length (flat Mr.Fe out)).holds (w3.alloc (.cells #[.int .i64 c, .string ⟨(aL.line (said ps)).toArray⟩] 51)) G2∧
     ∀GJ Hv w5,Goes (rowA 51 2 (.slice GJ (out.length+1) Hv) (out.length+1) (flat Mr.Fe out++ [.int .i64 c, .string ⟨(aL.line (said ps)).toArray⟩])) (w3.alloc (.cells #[.int .i64 c, .string ⟨(aL.line (said ps)).toArray⟩] 51)) G2 w5->
      w5.cell? ⟨tb,0,none⟩=some (.slice oo out.length QM)∧w5.frozen? ⟨tb,0,none⟩=false∧Goes (wD tb (out++ [(c,said ps)])) w F (w5.setCell ⟨tb,0,none⟩ (.slice GJ (out.length+1) Hv))):=fun w3 iH=>by
    have mh:(blk tb (.cells #[.slice oo out.length QM] 94 (0,0))).holds w3 G1:=Mr.au hb1 iH;refine⟨by simp only[World.cell?,mh.1];rfl,fM (Mr.au hou iH) _,fun GJ Hv w5 hg=> ?_⟩;have g1:Goes (aa (rowA 51 2 (.slice GJ (out.length+1) Hv) (out.length+1) (flat Mr.Fe out++ [.int .i64 c, .string ⟨(aL.line (said ps)).toArray⟩])) (blk tb (.cells #[.slice oo out.length QM] 94 (0,0)))) w3 F w5:=aV mh (ft hg) (fun k hk h=>dd k h hk) (fun k=>(ee k).trans or_comm);have o3:Only F w w3:=(Only.refl F w).below iH;have g2:=(aF o3 (fun k hk=> .inl hk) g1).eq (cA _ _);obtain⟨F5,nZ,_⟩:=id g2;obtain⟨cl5,fz5,_⟩:=bQ nZ;refine⟨cl5 0,fz5 0,(g2.store 0 _).mono fun F6 h6=>⟨.slice GJ (out.length+1) Hv, ?_⟩⟩;have e6:Mr.iB (.slice GJ (out.length+1) Hv) (out++ [(c,said ps)])=rowA 51 2 (.slice GJ (out.length+1) Hv) (out.length+1) (flat Mr.Fe out++ [.int .i64 c, .string ⟨(aL.line (said ps)).toArray⟩]):=by unfold Mr.iB;rw[aN,dL];rfl
    show(aa (blk tb _) (Mr.iB _ _)).holds _ _;rw[e6];exact h6
   have HB:=hide hB;clear HN kG Jf GZ hb1 hou dd ee HH HP HT GI wL hmk hB;generalize ps.length=np at*;generalize vW:said ps=sd at*;generalize Af:aL.line sd=ln at*;go_wp2_with (first
    |(go_at_call 136;go_must(refine HJ.out.mono ?_;rintro e w2⟨rfl,bN⟩;have Wt:=hide (Dl HB.out bN);clear bN))
    |(go_at_call 46;go_must(refine(pC.out _).mono ?_;rintro e w3⟨rfl,mh⟩;have iH:=Dl Wt.out mh;obtain⟨d1,d2,d3⟩:=fg.out w3 iH;have fy:=hide d2;have HD3:=hide d3;clear mh iH d2 d3))
    |(at_builtin;go_must(refine aC _ rfl _ _ 32 rfl 51 i1 (.agg #[.int .i64 0, .string ⟨#[]⟩]) 2 24 underlying32 GP PY PZ P0 rfl (by decide) (F:=G2) _ out.length _ rfl fy.out ⟨w3.heap.size,0,none⟩ 1 1 [.int .i64 c, .string ⟨ln.toArray⟩] rfl rfl (World.news_of_block (cs:= #[.int .i64 c, .string ⟨ln.toArray⟩]) (t:=51) (fr:=(0,0)) (heap_alloc_new w3 _)) (by simp[Value.oneCell']) (by unfold maxLen;omega) (by omega) ?_;intro GJ Hv w5 bK;obtain⟨d4,d5,d6⟩:=HD3.out GJ Hv w5 bK;have HE:=hide d6;clear bK d6)))
   go_end0;exact⟨rfl,by rw[vW];exact HE.out⟩
variable{x:Nat}{g:Gh}{j:Js}{v:Dv}{w:World}{F:Ft}
theorem yN(h:(bk x g j v).holds w F):(∀k,w.cell? ⟨x,k,none⟩=(zE j v)[k]?)∧(∀k,w.frozen? ⟨x,k,none⟩=false)∧x<w.heap.size:=by have:=bQ h;exact⟨this.1,this.2.1,(cT.1 this.2.2).1⟩
theorem Ym(h:(bk x g j v).holds w F): ∃G,(kN v.cm j.bT).holds w G:=by
 have e:bk x g j v=aa (kN v.cm j.bT) (aa (dB x j v) (aa (jS g v.rm j.reqs) (aa (jk g v.tm j.aW) (aa (all jo j.bT) (aa (all (dO g j.c.re) j.reqs) (aa (all (gA g) j.aW) (aa (fK g v.rv j.ring) (aa (jw v.pv j.pull) (aa (eY g v.lv j.hp) (hpA g j.hp)))))))))):=by unfold bk;ac_rfl
 obtain⟨G,hG,_⟩:=aM.left (aB h e);exact⟨G,hG⟩
theorem ac2(h:(bk x g j v).holds w F): ∀k∈j.bT,∃kv,w.heap[k.p]?=some (.cells #[kv, .bool k.dr] 107 (0,0)):=by
 have e:bk x g j v=aa (all jo j.bT) (aa (kN v.cm j.bT) (aa (dB x j v) (aa (jS g v.rm j.reqs) (aa (jk g v.tm j.aW) (aa (all (dO g j.c.re) j.reqs) (aa (all (gA g) j.aW) (aa (fK g v.rv j.ring) (aa (jw v.pv j.pull) (aa (eY g v.lv j.hp) (hpA g j.hp)))))))))):=by unfold bk;ac_rfl
 obtain⟨G,hG,_⟩:=aM.left (aB h e);intro k hk;obtain⟨G',kv,jU⟩:=Mr.tv hG k hk;exact⟨kv,(dC jU).1⟩
theorem Qc(h:(bk x g j v).holds w F):(∃G,(eY g v.lv j.hp).holds w G)∧ ∀i (hi:i<j.hp.length),w.heap[g.ap (key j.hp[i])]?=some (.cells (fW g j.hp[i] i) 126 (0,0)):=by
 have e:bk x g j v=aa (eY g v.lv j.hp) (aa (hpA g j.hp) (aa (kN v.cm j.bT) (aa (dB x j v) (aa (jS g v.rm j.reqs) (aa (jk g v.tm j.aW) (aa (all jo j.bT) (aa (all (dO g j.c.re) j.reqs) (aa (all (gA g) j.aW) (aa (fK g v.rv j.ring) (jw v.pv j.pull)))))))))):=by unfold bk;ac_rfl
 have h2:=aB h e;obtain⟨G,H,h3,h4,_⟩:=h2;refine⟨⟨G,h3⟩,fun i hi=> ?_⟩;have hz:i<j.hp.zipIdx.length:=by simpa using hi
 have h5:=aB h4 (show _=aa (gD g j.hp[i] i) (aa (all (fun x:At×Nat=>gD g x.1 x.2) (j.hp.zipIdx.eraseIdx i)) (aa (kN v.cm j.bT) (aa (dB x j v) (aa (jS g v.rm j.reqs) (aa (jk g v.tm j.aW) (aa (all jo j.bT) (aa (all (dO g j.c.re) j.reqs) (aa (all (gA g) j.aW) (aa (fK g v.rv j.ring) (jw v.pv j.pull))))))))))by unfold hpA;rw[sw hz,bX];simp)
 exact(dC h5).1
theorem JQ(w:World):(zeroValue 99).run prog w= .ok (.pointer none) w:=by kernel_rfl
theorem yj(x:Nat)(g:Gh)(j:Js)(c:Int)(w:World)(F:Ft)(h:(jA x g j).holds w F)(hc:(Lit.int .i64 c).wf=true)(hcn:(j.bT.map (·.n)).Nodup):Calls prog 165 #[pt x, .int .i64 c] w fun e w'=>e= .returned (.bool (j.drains c))∧w'=w:=by
 obtain⟨v,h⟩:=h;have c6:w.cell? ⟨x,6,none⟩=some (.map (some v.cm)):=(yN h).1 6;obtain⟨G,hG⟩:=Ym h;have od:=nN hG (t:=81) (e:=99) underlying81 (JQ w) c hc;have Mf:(Instr.lookup 81 (.map (some v.cm)) (.int .i64 c) false).run prog w= .ok (rY (j.bT.map fun k=>(k.n,k.p)) c) w:=od;cases hf:j.bT.find? (·.n==c)with
 |none=>
  have hn:c∉(j.bT.map fun k=>(k.n,k.p)).map (·.1):=by rw[aG];intro hm;obtain⟨k,hk,e⟩:=aA.1 hm;exact List.find?_eq_none.1 hf k hk (by simpa using e)
  rw[lO hn]at Mf;have ed:j.drains c=false:=by unfold Js.drains;rw[hf]
  rw[ed];clear od hG h;unfold pt;go_enter func165,ntmps165;go_wp2;go_ret;exact⟨rfl,rfl⟩
 |some k=>
  have hk:=dT hf;have ek:k.n=c:=by simpa using List.find?_some hf
  have hl:=lQ (m:=j.bT.map fun k=>(k.n,k.p)) (by rw[aG];exact hcn) (aA.2 ⟨k,hk,rfl⟩);dsimp only at hl;rw[ek]at hl;rw[hl]at Mf;obtain⟨kv,TW⟩:=ac2 h k hk;have c1:w.cell? ⟨k.p,1,none⟩=some (.bool k.dr):=by simp only[World.cell?,TW];rfl
  have ed:j.drains c=k.dr:=by unfold Js.drains;rw[hf]
  rw[ed];clear od hG h hl TW;unfold pt at*;go_enter func165,ntmps165;go_wp2;go_ret;exact⟨rfl,rfl⟩
theorem lJ(c:Int)(w:World):Calls prog 79 #[.int .i64 c] w fun e w'=>e= .returned (.func (.func 124) #[] #[.pointer (some ⟨w.heap.size,0,none⟩)])∧w'=w.alloc (.cells #[.int .i64 c] 3):=by go_enter func79,ntmps79;go_wp2;go_ret;exact⟨rfl,rfl⟩
theorem qL(p bx:Nat)(c d:Int)(w:World)(hp:w.cell? ⟨p,2,none⟩=some (.int .i64 d))(hb:w.cell? ⟨bx,0,none⟩=some (.int .i64 c)):Calls prog 124 #[.pointer (some ⟨p,0,none⟩), .pointer (some ⟨bx,0,none⟩)] w fun e w'=>e= .returned (.bool (d==c))∧ ∃q,w'=w.drewN q:=by
 go_enter func124,ntmps124;go_wp2
 go_quiet (fail)
 go_wp2;go_ret;exact⟨rfl,_,rfl⟩
end Pj
namespace Pj
open Go.RowKit aM Mc
def I6(c:Int):Prop:=(Lit.int .i64 c).wf=true
def Cw(j:Js):Prop:=(∀a∈j.hp,I6 a.conn)∧ ∀c∈j.pull,I6 c
def jx(j:Js):List (Int×Nat×Bs):=j.bT.map fun k=>(k.n,k.p,k.kept)
def stA(base x tb:Nat)(g:Gh)(cn:List (Int×Nat×Bs))(s:St):aM where
 holds w F:= ∃j,Rel g j s∧Cw j∧jx j=cn∧(∀k,F k->base<=k)∧(aa (jA x g j) (wD tb s.out)).holds w F
 lt h:=by obtain⟨j,_,_,_,_,h⟩:=h;exact aM.lt _ h
 keep h hk:=by obtain⟨j,h1,h2,h3,h4,h⟩:=h;exact⟨j,h1,h2,h3,h4,aM.keep _ h hk⟩
def Tabs(base:Nat)(w:World):Prop:=base<=w.heap.size∧ ∀w',Below base w w'->Lib.TabIs prog w' "internal/strconv.uint64pow10" .u64 Lib.pow10Tab
section
variable{base:Nat}{w w':World}{F:Ft}{A:aM}
theorem iz{a b c:World}(h:Below base a b)(h2:Below base b c):Below base a c:=
 ⟨h2.os.trans h.os,h2.tape.trans h.tape,h2.output.trans h.output,aw h.size h2.size,fun k hk=>(h2.block k hk).trans (h.block k hk)⟩
theorem Tabs.below(T:Tabs base w)(h:Below base w w'):Tabs base w':=⟨aw T.1 h.size,fun w2 h2=>T.2 w2 (iz h h2)⟩
theorem Tabs.goes(T:Tabs base w)(hF: ∀k,F k->base<=k)(h:Goes A w F w'):Tabs base w':=by obtain⟨_,_,o,_⟩:=h;exact T.below (o.toBelow hF T.1)
theorem Tabs.only(T:Tabs base w)(hF: ∀k,F k->base<=k)(o:Only F w w'):Tabs base w':=T.below (o.toBelow hF T.1)
theorem Tabs.new(T:Tabs base w)(h:Below w.heap.size w w'):Tabs base w':=T.below (h.mono T.1)
theorem Tabs.tab(T:Tabs base w): ∀w',Below w.heap.size w w'->Lib.TabIs prog w' "internal/strconv.uint64pow10" .u64 Lib.pow10Tab:=fun w' h=>T.2 w' (h.mono T.1)
end
section
variable{base x tb:Nat}{g:Gh}{cn:List (Int×Nat×Bs)}{s:St}{j:Js}{w w':World}{F:Ft}
theorem dx(h:(stA base x tb g cn s).holds w F): ∀k,F k->base<=k:=by obtain⟨_,_,_,_,h,_⟩:=h;exact h
theorem iD{j':Js}{s':St}(T:Tabs base w)(hF: ∀k,F k->base<=k)(h1:Rel g j' s')(h2:Cw j')(h3:jx j'=cn)(h:Goes (aa (jA x g j') (wD tb s'.out)) w F w'):Goes (stA base x tb g cn s') w F w':=by
 obtain⟨F',h',o,n⟩:=h;refine⟨F',⟨j',h1,h2,h3,fun k hk=> ?_,h'⟩,o,n⟩;rcases n k hk with e|e
 ·exact hF k e
 ·exact aw T.1 e
theorem fI(h:Rel g j s)(hi:Inv s)(hz:s.sz<=16777000):Wf j:=by
 have hz':=hz;unfold St.sz at hz';have wR: ∀t,∀i∈s.aZ t,∃l∈s.ring,i∈l.ids:=fun t i hm=>by
  unfold St.aZ at hm;split at hm
  ·rename_i l hl;exact⟨l,dT hl,hm⟩
  ·cases hm
 have og:=St.kg hi;have Mn:j.reqs.length=s.reqs.length:=by rw[<-h.reqs,bf]
 have jI:(j.reqs.map fun r=>r.q.id)=s.reqs.map (·.id):=by rw[<-h.reqs,aG];rfl
 have kJ:s.ks.map (·.1)=s.reqs.map (·.id):=by unfold St.ks;rw[aG];rfl
 have hkt: ∀i t,(i,t)∈s.ks->i∈j.reqs.map fun r=>r.q.id:=fun i t hm=>by rw[jI,<-kJ];exact aA.2 ⟨_,hm,rfl⟩
 refine⟨by rw[jI,<-kJ];exact hi.rid,h.rj,fun t ht i hm=> ?_,fun n hm=> ?_,fun r hr=> ?_,fun t ht=> ?_, ?_, ?_, ?_,fun t ht=> ?_, ?_, ?_, ?_,fun r hr=> ?_⟩
 ·rw[h.wt t ht]at hm;obtain⟨l,hl,dM⟩:=wR _ i hm;exact hkt i _ ((hi.ring l hl).2 i dM)
 ·rw[h.ring]at hm;obtain⟨l,hl,rfl⟩:=aA.1 hm;obtain⟨h1,h2⟩:=hi.ring l hl;obtain⟨i,Ab⟩:=List.exists_mem_of_ne_nil _ h1;have:=h2 i Ab;unfold St.ks at this;obtain⟨r,hr,e⟩:=aA.1 this;have e2:r.ten=l.ten:=congrArg Prod.snd e;rw[<-e2];exact h.ten r hr
 ·exact h.ten r.q (by rw[<-h.reqs];exact aA.2 ⟨r,hr,rfl⟩)
 ·rw[h.wt t ht];unfold St.aZ;split
  ·rename_i l hl;have:=St.qP hi (dT hl);omega
  ·simp
 ·rw[h.ring,bf];omega
 ·rw[h.pull];omega
 ·rw[h.hp.length_eq];omega
 ·rw[h.rn t ht];have:s.runs t.nm<=s.af.length:=List.countP_le_length;omega
 ·omega
 ·have:=h.abu;omega
 ·have:=h.cons;omega
 ·rw[h.al r hr];unfold St.nums;rw[bf];have:=List.length_filter_le (fun a:At=>a.id==r.q.id) s.af;omega
end
theorem Part.vy{b:Bs}(h:b.length<=64):(Part.s b).ok:=h
theorem Part.Cy{x:Int}(h:0<=x∧x<=9223372036854775807):(Part.n x).ok:=h
theorem Ev: ∀(l:List Bs) (n:Nat),(∀b∈l,b.length<=n)->(Lib.join l [32]).length<=l.length*(n+1)
 | [],n,_=>by simp[Lib.join]
 | [b],n,h=>by have:=h b (by simp);simp[Lib.join];omega
 |b::b'::l,n,h=>by
  have h1:=Ev (b'::l) n (fun y hy=>h y (bt _ hy));have h2:=h b (by simp);have e:Lib.join (b::b'::l) [32]=b++ [32]++Lib.join (b'::l) [32]:=by simp[Lib.join]
  rw[e];simp only[aN,List.length_cons,List.length_nil]at h1⊢;have h3:(l.length+1+1)*(n+1)=(l.length+1)*(n+1)+(n+1):=Nat.succ_mul _ _;omega
theorem tN: ∀(f n:Nat),(pV f n).length<=f
 |0,_=>by simp[pV]
 |f+1,n=>by
  unfold pV;split
  ·simp
  ·have:=tN f (n/10);simp;omega
theorem Part.len{p:Part}(h:p.ok):p.txt.length<=64:=by
 cases p with
 |s b=>exact h
 |n x=>have:=tN 20 x.toNat;show(cJ x).length<=64;unfold cJ;omega
theorem CE{base x tb:Nat}{g:Gh}{cn:List (Int×Nat×Bs)}{s:St}{w:World}{F:Ft}(T:Tabs base w)(h:(stA base x tb g cn s).holds w F)(hz:s.sz<=16777000)(c:Int)(ps:List Part)(t:Bs)(ht:said ps=t)(qM:0<ps.length)(hn:ps.length<=16)(Ah: ∀p∈ps,p.ok): ∀w1,Below w.heap.size w w1->Calls prog 89 #[pt tb, .int .i64 c, .slice (some ⟨w1.heap.size,0,none⟩) ps.length ps.length] (w1.alloc (.cells (ps.map Part.val).toArray 20)) fun e w'=>e= .returned (.tuple #[])∧Goes (stA base x tb g cn (s.say c t)) w F w':=fun w1 hB=>by
 obtain⟨j,r1,r2,r3,hF,hh⟩:=h;have hh1:=fM (Mr.au hh hB) (.cells (ps.map Part.val).toArray 20);have T1:Tabs base (w1.alloc (.cells (ps.map Part.val).toArray 20)):=(T.new hB).new ((ah _ _).alloc (ae _) _);have hb1:Only F w (w1.alloc (.cells (ps.map Part.val).toArray 20)):=((Only.refl F w).below hB).alloc _;obtain⟨G,H,ha,hb,d,e⟩:=id (aB hh1 (cA _ _));have Ir:s.out.length<=134217728:=by unfold St.sz at hz;omega
 have hlen:(said ps).length<=1048576:=by
  have:=Ev (ps.map Part.txt) 64 (fun b hb=>by obtain⟨p,hp,rfl⟩:=aA.1 hb;exact Part.len (Ah p hp))
  rw[bf]at this;unfold said;omega
 refine(mL tb c ps w1.heap.size 0 ps.length s.out _ G ha (fun k p hp=> ?_) qM hn (by simp) Ah hlen Ir T1.tab).mono ?_
 ·have iO:=heap_alloc_new w1 (.cells (ps.map Part.val).toArray 20);simp only[World.cell?,iO,Nat.zero_add];simp[hp]
 ·rintro e' w'⟨rfl,hg⟩;refine⟨rfl, ?_⟩;have g1:=aV hb hg d e;rw[ht]at g1;have g2:=aF hb1 (fun k hk=> .inl hk) (g1.eq (cA _ _));exact iD T hF (r1.say c t) r2 r3 g2
end Pj
namespace Pj
open Go.RowKit aM Mc
attribute [local go_sem] ag ar
variable{s:St}{w:World}{base x tb:Nat}{g:Gh}{cn:List (Int×Nat×Bs)}{F:Ft}
theorem LM{hp:List At}(h:hp.Perm s.af)(c:Int):(hp.find? fun a=>a.conn==c)=none↔s.held c=0:=by unfold St.held;rw[<-h.countP_eq,List.countP_eq_zero,List.find?_eq_none]
theorem cL{w1:World}{b k:Nat}(h:Below w.heap.size w w1)(hb:b<w.heap.size):w1.cell? ⟨b,k,none⟩=w.cell? ⟨b,k,none⟩:=h.cell (p:=⟨b,k,none⟩) hb
theorem uQ{B:Nat}{a b:World}(h:Below B a b)(n:Nat):Below B a (b.drewN n):=⟨h.os,h.tape,h.output,h.size,h.block⟩
theorem CF{s1 s2:St}{w':World}(h:Goes (stA base x tb g cn s1) w F w')(e:s2.out=s1.out)(hr: ∀j,Rel g j s1->Rel g j s2):Goes (stA base x tb g cn s2) w F w':=by refine h.mono fun F' h'=> ?_;obtain⟨j,h1,h2,h3,h4,h5⟩:=h';exact⟨j,hr j h1,h2,h3,h4,by rw[e];exact h5⟩
theorem xg(T:Tabs base w)(h:(stA base x tb g cn s).holds w F)(hi:Inv s)(hz:s.sz<=16777000)(c:Int)(hc:I6 c)(KA:s.drains c=true->s.held c=0->(s.aq.any fun x=>x.n==c &&x.drains && !x.gone)=true)(XD:(s.aq.any fun x=>x.n==c &&x.drains && !x.gone)=true->s.drains c=true):Calls prog 127 #[pt x,pt tb, .int .i64 c] w fun e w'=>e= .returned (.tuple #[])∧Goes (stA base x tb g cn (s.fJ c)) w F w':=by
 have gq:=hide (CE T h hz c [.s [98,121,101]] [98,121,101] rfl (by simp) (by simp) (by intro p hp;simp at hp;rw[hp];exact Part.vy (by decide)));obtain⟨j,r1,r2,r3,hF,hh⟩:=id h;obtain⟨G,H,hj,Al,_,_⟩:=id hh;have wf:=fI r1 hi hz;have C3:Hid (∀w1,Below w.heap.size w w1->Calls prog 165 #[pt x, .int .i64 c] w1 fun e w'=>e= .returned (.bool (s.drains c))∧w'=w1):=fun w1 hB=>by have:=yj x g j c w1 G (Mr.au hj hB) hc r1.cnd;rwa[r1.dr c]at this
 obtain⟨v,hv⟩:=id hj;have c11:w.cell? ⟨x,11,none⟩=some v.lv:=(yN hv).1 11;have vd:x<w.heap.size:=(yN hv).2.2;obtain⟨⟨Gl,xw⟩,rD⟩:=Qc hv;obtain⟨ao,cap,LH⟩:=aX (Goes.refl xw);rw[LH]at c11 xw;have HC:Hid (∀w1,Below w.heap.size w w1->w1.cell? ⟨x,11,none⟩=some (.slice ao j.hp.length cap)):=fun w1 hB=>by rw[cL hB vd];exact c11
 have l9:=wf.b4;have jY:Hid (∀w1,Below w.heap.size w w1->Calls prog 166 #[.slice ao j.hp.length cap, .func (.func 124) #[] #[.pointer (some ⟨w1.heap.size,0,none⟩)]] (w1.alloc (.cells #[.int .i64 c] 3)) fun e w'=>e= .returned (ep ((j.hp.find? fun a=>a.conn==c).map fun a=>g.ap (key a)))∧Below w.heap.size w w'):=fun w1 hB=>by
  have hB2:Below w.heap.size w (w1.alloc (.cells #[.int .i64 c] 3)):=hB.alloc hB.size _;refine(fiA _ j.hp (fun a=>g.ap (key a)) (fun a=>a.conn==c) 124 #[.pointer (some ⟨w1.heap.size,0,none⟩)] (enters_of func124 (by kernel_rfl) rfl) _ Gl (Mr.au xw hB2) (fun wr hr y hy=> ?_) (by omega)).mono ?_
  ·obtain⟨i,dM,rfl⟩:=List.mem_iff_getElem.1 hy;have ha:=rD i dM;have ay:g.ap (key j.hp[i])<w.heap.size:=(cT.1 ha).1;have iA:=hB.size;have Iz:=hB2.size;refine qL (g.ap (key j.hp[i])) w1.heap.size c j.hp[i].conn wr ?_ ?_
   ·rw[hr.cell (p:=⟨_,2,none⟩) (bP ay Iz),hB2.cell (p:=⟨_,2,none⟩) ay];simp only[World.cell?,ha];rfl
   ·rw[hr.cell (p:=⟨w1.heap.size,0,none⟩) (by simp)];simp only[World.cell?,heap_alloc_new];rfl
  ·rintro e w'⟨rfl,q,rfl⟩;exact⟨rfl,uQ hB2 q⟩
 have hfh:=LM (s:=s) r1.hp c;have iP:Hid (∀w1,Below w.heap.size w w1->Goes (stA base x tb g cn s) w F w1):=fun w1 hB=>(Goes.refl h).below hB;clear h hh hj Al hv rD xw wf LH;unfold pt at*;cases hd:s.drains c with
 |false=>
  have Xe:s.fJ c=s:=by unfold St.fJ;rw[if_neg];intro e;simp only[bZ]at e;have:=XD e.1;rw[hd]at this;cases this
  rw[Xe];rw[hd]at C3;clear gq jY HC KA XD;go_enter func127,ntmps127;go_wp2_with fail;refine wp_region_noPanic ?_;refine wp_region_held_drew (S:=fun _=>True) (by kernel_rfl) trivial (fun dX=> ?_);refine mR (i:=0) (oi:=⟨some 6, .move (.tmp 0),40, "leave.go:21", #[],none⟩) rfl dX ?_
  try simp only[Act.put,sT,s0,s1]
  refine mR (i:=1) (oi:=⟨some 7, .move (.tmp 2),3, "leave.go:21", #[],none⟩) rfl dX ?_
  try simp only[Act.put,sT,s0,s1]
  refine wpAnyH_ready (rs:= [2]) (by kernel_rfl) (by simp) ?_;refine AllReadyH.cons rfl (fun K hK=> ?_) AllReadyH.nil;go_simp;refine(C3.out _ (ah _ _).drew).mono ?_;rintro e w5⟨rfl,rfl⟩;go_simp;refine hK.out _ _ trivial (fun pC=> ?_);clear hK K;refine mR (i:=3) (oi:=⟨some 9, .move (.tmp 8),4, "leave.go:21", #[⟨2, .data⟩,⟨2, .chain⟩],none⟩) rfl pC ?_
  try simp only[Act.put,sT,s0,s1]
  refine Nu (i:=4) (oi:=⟨some 10, .move (.tmp 0),40, "leave.go:21", #[⟨3, .guard⟩],some (3,true)⟩) (v:=undef) rfl (Or.inr ⟨by rfl,rfl⟩) pC ?_
  try simp only[Act.put,sT,s0,s1]
  refine Nu (i:=5) (oi:=⟨some 11, .nilCheck (.tmp 10),0, "leave.go:21", #[⟨4, .data⟩,⟨3, .guard⟩],some (3,true)⟩) (v:=undef) rfl (Or.inr ⟨by rfl,rfl⟩) pC ?_
  try simp only[Act.put,sT,s0,s1]
  refine Nu (i:=6) (oi:=⟨some 12, .fieldAddr 88 (.tmp 11) 7,0, "leave.go:21", #[⟨5, .data⟩,⟨3, .guard⟩],some (3,true)⟩) (v:=undef) rfl (Or.inr ⟨by rfl,rfl⟩) pC ?_
  try simp only[Act.put,sT,s0,s1]
  refine Nu (i:=7) (oi:=⟨some 13, .load 86 (.tmp 12),86, "leave.go:21", #[⟨6, .data⟩,⟨3, .guard⟩],some (3,true)⟩) (v:=undef) rfl (Or.inr ⟨by rfl,rfl⟩) pC ?_
  try simp only[Act.put,sT,s0,s1]
  refine Nu (i:=8) (oi:=⟨some 14, .move (.tmp 2),3, "leave.go:21", #[⟨3, .guard⟩],some (3,true)⟩) (v:=undef) rfl (Or.inr ⟨by rfl,rfl⟩) pC ?_
  try simp only[Act.put,sT,s0,s1]
  refine Nu (i:=9) (oi:=⟨some 15, .call {callee:= .value (.func 79),args:= #[.tmp 14],argTypes:= #[3]},133, "leave.go:21", #[⟨8, .data⟩,⟨3, .chain⟩,⟨3, .guard⟩],some (3,true)⟩) (v:=undef) rfl (Or.inr ⟨by rfl,rfl⟩) pC ?_
  try simp only[Act.put,sT,s0,s1]
  refine Nu (i:=10) (oi:=⟨some 16, .call {callee:= .value (.func 166),args:= #[.tmp 13, .tmp 15],argTypes:= #[85,133]},127, "leave.go:21", #[⟨7, .data⟩,⟨9, .data⟩,⟨9, .chain⟩,⟨3, .guard⟩],some (3,true)⟩) (v:=undef) rfl (Or.inr ⟨by rfl,rfl⟩) pC ?_
  try simp only[Act.put,sT,s0,s1]
  refine Nu (i:=11) (oi:=⟨some 17, .binOp .eql 127 (.tmp 16) (.const (.pointer none)) 127,4, "leave.go:21", #[⟨10, .data⟩,⟨3, .guard⟩],some (3,true)⟩) (v:=undef) rfl (Or.inr ⟨by rfl,rfl⟩) pC ?_
  try simp only[Act.put,sT,s0,s1]
  refine mR (i:=12) (oi:=⟨some 18, .pick (.tmp 9) (.tmp 17) (.const (.bool false)),4, "leave.go:21", #[⟨3, .data⟩,⟨11, .data⟩],none⟩) rfl pC ?_
  try simp only[Act.put,sT,s0,s1]
  refine wpAnyH_done (by kernel_rfl) (NoPanic.normal ?_) _;clear pC dX;go_wp2;go_end0;exact⟨rfl,iP.out _ (ah _ _).drew⟩
 |true=>
  rw[hd]at C3;cases hf:(j.hp.find? fun a=>a.conn==c)with
  |some a=>
   have hn:s.held c≠0:=fun e=>by rw[hfh.2 e]at hf;cases hf
   have Xe:s.fJ c=s:=by unfold St.fJ;rw[if_neg];intro e;simp only[bZ,beq_iff_eq]at e;exact hn e.2
   rw[Xe];rw[hf]at jY;change Hid (∀w1,Below w.heap.size w w1->Calls prog 166 _ _ fun e w'=>e= .returned (.pointer (some ⟨g.ap (key a),0,none⟩))∧Below w.heap.size w w')at jY;clear gq KA XD hfh;generalize g.ap (key a)=pa at*;generalize j.hp.length=nl at*;go_enter func127,ntmps127;go_wp2_with fail;go_region_held3 (fun w'=>w'.cell? ⟨x,11,none⟩=some (.slice ao nl cap)) (go_keep)
    (first
     |(go_at_call 165;go_must(refine(C3.out _ (ah _ _).drew).mono ?_;rintro e w5⟨rfl,rfl⟩;have q1:=HC.out _ (ah w.heap.size w).drew))
     |(go_at_call 79;go_must(refine(lJ c _).mono ?_;rintro e w6⟨rfl,rfl⟩;have q2:=HC.out _ ((ah w.heap.size w).drew.alloc (ae _) (.cells #[.int .i64 c] 3))))
     |(go_at_call 166;go_must(refine(jY.out _ (ah _ _).drew).mono ?_;rintro e w7⟨rfl,D1⟩;have q3:=HC.out _ D1)))
   all_goals have HB7:=iP.out _ D1;clear D1;go_wp2;go_end0;exact⟨rfl,HB7⟩
  |none=>
   have hn:=hfh.1 hf;have N7:Hid (∀w',Goes (stA base x tb g cn (s.say c [98,121,101])) w F w'->Goes (stA base x tb g cn (s.fJ c)) w F w'):=fun w' hg=>by
    refine CF hg ?_ (fun j' hr=>(hr.out s.out).fJ c);unfold St.fJ;rw[if_pos]
    ·rfl
    ·simp only[bZ,beq_iff_eq];exact⟨KA hd hn,hn⟩
   rw[hf]at jY;change Hid (∀w1,Below w.heap.size w w1->Calls prog 166 _ _ fun e w'=>e= .returned (.pointer none)∧Below w.heap.size w w')at jY;clear KA XD hfh;generalize j.hp.length=nl at*;go_enter func127,ntmps127;go_wp2_with fail;go_region_held3 (fun w'=>w'.cell? ⟨x,11,none⟩=some (.slice ao nl cap)) (go_keep)
    (first
     |(go_at_call 165;go_must(refine(C3.out _ (ah _ _).drew).mono ?_;rintro e w5⟨rfl,rfl⟩;have q1:=HC.out _ (ah w.heap.size w).drew))
     |(go_at_call 79;go_must(refine(lJ c _).mono ?_;rintro e w6⟨rfl,rfl⟩;have q2:=HC.out _ ((ah w.heap.size w).drew.alloc (ae _) (.cells #[.int .i64 c] 3))))
     |(go_at_call 166;go_must(refine(jY.out _ (ah _ _).drew).mono ?_;rintro e w7⟨rfl,D1⟩;have q3:=HC.out _ D1)))
   all_goals
    have WQ:=hide (gq.out _ D1);clear D1;go_wp2_with (first
     |(go_at_call 89;go_must(refine WQ.out.mono ?_;rintro e w8⟨rfl,TQ⟩;have Y3:=hide TQ;clear TQ)))
    go_end0;exact⟨rfl,N7.out _ Y3.out⟩
