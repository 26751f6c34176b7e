import Derived.Test.YtffamlbkmjmipaaGreatDoorB18
import Derived.Test.YtffamlbkmjmipaaGreatDoorB22
set_option maxHeartbeats 8000000
set_option maxRecDepth 100000
namespace Go.Proofs.YtffamlbkmjmipaaGreatDoor
open _root_.Go.Proofs.Tryz
namespace Mr
open Go.RowKit aM Mc bJ
attribute [local go_sem] aL.ag aL.ar
variable{p:Nat}{s:St}{m:MV}{g:List (Ln×Value)}{w:World}{F:Ft}
theorem U5{w1 w2:World}{G:Ft}{v:Value}{r:Rq}(az:(aI p s m g).holds w F)(hb:Below w.heap.size w w1)(hG:(dO m.rv s.reqs).holds w1 G)(bK:Goes (dO v (s.reqs++ [r])) w1 G w2):Goes (aI p {s with reqs:=s.reqs++ [r]} {m with rv:=v} g) w F (w2.setCell ⟨p,6,none⟩ v):=by have h0:Goes (aI p s m g) w F w1:=(Goes.refl az).below hb;rw[oT]at h0;have h1:=h0.part (cZ _ _ _ _ _) hG bK;have h2:=(h1.eq (bq _ _ _)).store 6 v;refine h2.eq ?_;rw[oT,bq];rfl
theorem YH(az:(aI p s m g).holds w F): ∃G,(dO m.rv s.reqs).holds w G∧ ¬G p∧ ∀k,G k->F k:=by rw[oT]at az;obtain⟨X,Y,hx,⟨B,_,hb,_,_,ey⟩,d,e⟩:=az;exact⟨X,hx,fun h=>d p h ((ey p).2 (.inl ((hb.2 p).2 rfl))),fun k h=>(e k).2 (.inl h)⟩
def Bj(s:St)(c:Int)(m:Mg):Rq:=⟨m.id,c,m.ten,m.txt,0,s.c.re,false⟩
theorem UK(h:Inv s)(c:Int)(m:Mg)(h1:s.req m.id=none):Inv ({s with reqs:=s.reqs++ [Bj s c m]}:St)∧m.id∈({s with reqs:=s.reqs++ [Bj s c m]}:St).ks.map (·.1):=by
 have NY:m.id∉s.ks.map (·.1):=fun hk=>by obtain⟨r,hr,_⟩:=St.cz hk;rw[hr]at h1;simp at h1
 have kJ:({s with reqs:=s.reqs++ [Bj s c m]}:St).ks=s.ks++ [(m.id,m.ten)]:=by unfold St.ks;rw[aH];rfl
 refine⟨⟨?_,fun a ha=> ?_,fun l hl=>⟨(h.ring l hl).1,fun i hi=> ?_⟩,h.fP,h.once,h.cn,h.wt⟩, ?_⟩
 ·rw[kJ,aH,List.nodup_append];refine⟨h.rid,by simp,fun a ha b hb e=>NY ?_⟩;simp at hb;subst hb;exact e▸ha
 ·rw[kJ,aH];exact List.mem_append_left _ (h.bS a ha)
 ·rw[kJ];exact List.mem_append_left _ ((h.ring l hl).2 i hi)
 ·rw[kJ,aH];exact List.mem_append_right _ (by simp)
theorem Bu(a b c:Bs):((⟨a.toArray⟩:ByteArray)++⟨b.toArray⟩++⟨c.toArray⟩)=⟨(a++b++c).toArray⟩:=by apply ByteArray.ext;simp
theorem CN(a b:Bs):((⟨a.toArray⟩:ByteArray)++⟨b.toArray⟩)=⟨(a++b).toArray⟩:=by apply ByteArray.ext;simp
theorem Q7{id:Int}:s.reqs.findIdx? (·.id==id)=none↔s.req id=none:=by unfold St.req;rw[List.findIdx?_eq_none_iff,List.find?_eq_none];simp
def isFull(s:St)(m:Mg)(l:Ln):Bool:=l.ten==m.ten &&decide (s.c.bo<=(l.ids.length:Int))
theorem Pg(hr:g.map (·.1)=s.ring)(m:Mg):s.ring.any (isFull s m)=g.any (fun x=>isFull s m x.1):=by rw[<-hr,List.any_map];rfl
set_option linter.unusedSimpArgs false in
theorem sY(p:Nat)(c:Int)(x:Mg)(hx:Bd.bJ x)(s:St)(hv:Fine 16776000 s)(w:World)(F:Ft)(hm:(aU p s).holds w F):Calls prog 187 #[.pointer (some ⟨p,0,none⟩), .int .i64 c, .agg x.cs] w (fZ p (s.bU c x) w F):=by
 obtain⟨xk,bE,bz,bp,bh⟩:=x;obtain⟨i6,hi6,hu0,hu1,hu2⟩:=info_parts P8;obtain⟨m,g,hr,az⟩:=bD hm;have hl:=hv.lens;have mX:0<=bE∧bE<=999999:=hx.id;have GS:bp.length<=64:=hx.ten;have Wi:bh.length<=64:=hx.txt;obtain⟨w0,nj⟩: ∃w0,w0=w.alloc (.cells #[.string ⟨xk.toArray⟩, .int .i64 bE, .int .i64 bz, .string ⟨bp.toArray⟩, .string ⟨bh.toArray⟩] 113):=⟨_,rfl⟩;have Kq:Below w.heap.size w w0:=nj▸(ah _ _).alloc (ae _) _;have cP:w0.heap[w.heap.size]?=some (.cells #[.string ⟨xk.toArray⟩, .int .i64 bE, .int .i64 bz, .string ⟨bp.toArray⟩, .string ⟨bh.toArray⟩] 113 (0,0)):=by rw[nj];exact heap_alloc_new w _
 have BW:w0.heap.size=w.heap.size+1:=by rw[nj];simp
 have vT:(aU p s).holds w0 F:=(aU p s).keep hm (fun q hq=>Kq.block q ((aU p s).lt hm q hq));have kt:(aI p s m g).holds w0 F:=au az Kq;have NR: ¬F w.heap.size:=fun h=>by have:=(aU p s).lt hm _ h;omega
 have dU:=bR hr kt;have dc:=dU.lt;have XY:p<w.heap.size:=(bR hr az).lt;have rJ:Hid (∀e w',fZ p (s.bU c ⟨xk,bE,bz,bp,bh⟩) w0 F e w'->fZ p (s.bU c ⟨xk,bE,bz,bp,bh⟩) w F e w'):=fun e w' h=>⟨h.1,Goes.trans ((Goes.refl hm).below Kq) fun F' dR=>by rw[eG dR vT];exact h.2⟩;have HB:Hid (∀w',Below w0.heap.size w0 w'->w'.cell? ⟨w.heap.size,1,none⟩=some (.int .i64 bE)∧w'.cell? ⟨w.heap.size,3,none⟩=some (.string ⟨bp.toArray⟩)∧w'.cell? ⟨w.heap.size,4,none⟩=some (.string ⟨bh.toArray⟩)):=fun w' hb=>⟨by rw[hb.cell (p:=⟨w.heap.size,1,none⟩) (show w.heap.size<_ by omega),World.cell?,cP];rfl,by rw[hb.cell (p:=⟨w.heap.size,3,none⟩) (show w.heap.size<_ by omega),World.cell?,cP];rfl,by rw[hb.cell (p:=⟨w.heap.size,4,none⟩) (show w.heap.size<_ by omega),World.cell?,cP];rfl⟩
 have pB:Hid (∀w':World,Calls prog 103 #[.int .i64 bE] w' fun e dV=>e= .returned (.string ⟨(cJ bE).toArray⟩)∧Below w'.heap.size w' dV):=fun w'=>kO bE (by omega) (by omega) w';have HQ:Hid (∀w',Below w0.heap.size w0 w'->Calls prog 106 #[.pointer (some ⟨p,0,none⟩), .int .i64 bE] w' fun e dV=>e= .returned (.int .i64 (jV (s.reqs.findIdx? (·.id==bE))))∧Below w'.heap.size w' dV):=fun w' hb=>mK p bE s m g w' (dU.below hb) (by omega);have HD:Hid (∀w',Below w0.heap.size w0 w'->(s.req bE).isSome=true->Calls prog 102 #[.pointer (some ⟨p,0,none⟩), .int .i64 c, .string ((⟨#[114,101,106,32]⟩:ByteArray)++⟨(cJ bE).toArray⟩++⟨#[32,100,117,112]⟩)] w' (fZ p (s.bU c ⟨xk,bE,bz,bp,bh⟩) w0 F)):=fun w' hb h=>by
  rw[Bu [114,101,106,32] (cJ bE) [32,100,117,112]];have e:s.bU c ⟨xk,bE,bz,bp,bh⟩=s.say c ([114,101,106,32]++cJ bE++ [32,100,117,112]):=by unfold St.bU;rw[if_pos h]
  rw[e];refine(mL p c _ s w' F ((aU p s).keep vT (fun q hq=>hb.block q ((aU p s).lt vT q hq))) (by omega) (by have:=fh bE;simp;omega)).mono ?_;rintro e dV⟨rfl,hg⟩;exact⟨rfl,Goes.trans ((Goes.refl vT).below hb) fun F2 eX=>by rw[eG eX ((aU p s).keep vT (fun q hq=>hb.block q ((aU p s).lt vT q hq)))];exact hg⟩
 have HFU:Hid (∀w',Below w0.heap.size w0 w'->s.req bE=none->g.any (fun y=>isFull s ⟨xk,bE,bz,bp,bh⟩ y.1)=true->Calls prog 102 #[.pointer (some ⟨p,0,none⟩), .int .i64 c, .string ((⟨#[114,101,106,32]⟩:ByteArray)++⟨(cJ bE).toArray⟩++⟨#[32,102,117,108,108]⟩)] w' (fZ p (s.bU c ⟨xk,bE,bz,bp,bh⟩) w0 F)):=fun w' hb h h2=>by
  rw[Bu [114,101,106,32] (cJ bE) [32,102,117,108,108]];have e:s.bU c ⟨xk,bE,bz,bp,bh⟩=s.say c ([114,101,106,32]++cJ bE++ [32,102,117,108,108]):=by unfold St.bU;rw[if_neg (by rw[h];simp),if_pos];rw[<-Pg hr]at h2;exact h2
  rw[e];refine(mL p c _ s w' F ((aU p s).keep vT (fun q hq=>hb.block q ((aU p s).lt vT q hq))) (by omega) (by have:=fh bE;simp;omega)).mono ?_;rintro e dV⟨rfl,hg⟩;exact⟨rfl,Goes.trans ((Goes.refl vT).below hb) fun F2 eX=>by rw[eG eX ((aU p s).keep vT (fun q hq=>hb.block q ((aU p s).lt vT q hq)))];exact hg⟩
 obtain⟨ao,cap,Gl,_,c8,HGl,fT⟩:=vq dU;have c3:w0.cell? ⟨p,3,none⟩=some (.int .i64 s.c.bo):=dU.cell 3;have ZT:Hid (∀k (hk:k<g.length),∃cU b9,(g[k]'hk).2= .slice cU (g[k]'hk).1.ids.length b9∧(g[k]'hk).1.ids.length<=16777216):=fun k hk=>by obtain⟨G2,pw⟩:=dU.Wm (g[k]'hk) (aY hk);obtain⟨cU,b9,Mo,_,_⟩:=yL pw;have h1:=St.qP hv.inv (l:=(g[k]'hk).1) (by rw[<-hr];exact aA.2 ⟨_,aY hk,rfl⟩);exact⟨cU,b9,Mo,by omega⟩
 have sG:g.length<=16777216:=by have h1:=St.kg hv.inv;rw[<-hr,bf]at h1;omega
 have c6:w0.cell? ⟨p,6,none⟩=some m.rv:=dU.cell 6;have c1:w0.cell? ⟨p,1,none⟩=some (.int .i64 s.c.re):=dU.cell 1;have f6:w0.frozen? ⟨p,6,none⟩=false:=dU.frozen 6;have HS:Hid (∀w',Below w0.heap.size w0 w'->w'.cell? ⟨p,8,none⟩=some (.slice ao g.length cap)∧w'.cell? ⟨p,3,none⟩=some (.int .i64 s.c.bo)):=fun w' hb=>⟨by rw[hb.cell (p:=⟨p,8,none⟩) dc];exact c8,by rw[hb.cell (p:=⟨p,3,none⟩) dc];exact c3⟩
 have HO:=hide kt;have HR:=hide hr;have HM:=hide dU;have HV:=hide hv;have RZ:=hide NR;have hcb:1<=s.c.bo∧s.c.bo<=8:=hv.bd.c.bo;have ng:(cJ bE).length<=20:=fh _;have Ae: ¬9223372036854775807<4+(cJ bE).length:=by omega
 have oJ: ¬9223372036854775807<4+(cJ bE).length+4:=by omega
 have NX: ¬9223372036854775807<4+(cJ bE).length+5:=by omega
 have HFG:Hid (cJ bE=cJ bE):=rfl;have vJ:Hid (w0=w.alloc (.cells #[.string ⟨xk.toArray⟩, .int .i64 bE, .int .i64 bz, .string ⟨bp.toArray⟩, .string ⟨bh.toArray⟩] 113)):=nj;clear hm az kt vT dU hr hv NR hx cP nj Kq;generalize uJ:cJ bE=fi at*;have jY:=hide uJ;clear uJ;obtain⟨b1,b3,b4⟩:=HB.out w0 (ah _ _);dsimp only[Mg.cs];go_enter func187,ntmps187;go_wp2_with fail;rw[<-vJ.out];refine(pB.out _).mono ?_;rintro e w1⟨rfl,hb1⟩;have hB1:=hb1;obtain⟨d1,d3,d4⟩:=HB.out _ hB1;clear b1 b3 b4;go_wp2_with fail;refine(HQ.out _ hB1).mono ?_;rintro e w2⟨rfl,bN⟩;have hB2:=bj hB1 bN;obtain⟨b1,b3,b4⟩:=HB.out _ hB2;clear d1 d3 d4 bN hB1 hb1;have acC:s.reqs.findIdx? (·.id==bE)=none∨ ∃j:Nat,s.reqs.findIdx? (·.id==bE)=some j:=by
  cases s.reqs.findIdx? (·.id==bE)with
  |none=>exact .inl rfl
  |some j=>exact .inr ⟨j,rfl⟩
 rcases acC with ju|⟨j,ju⟩
 ·have Z5:=hide (Q7.1 ju);rw[ju];clear ju HQ HD pB;obtain⟨e8,e3⟩:=HS.out _ hB2;go_wp2;go_loopw [28] (fun i wr=> ∃k:Nat,k<=g.length∧i= .int .i64 k∧Hid (k<=g.findIdx (fun y=>isFull s ⟨xk,bE,bz,bp,bh⟩ y.1))∧Below w0.heap.size w0 wr) (fun i _=>g.length-(intOf i).toNat)
  case atStart=>exact⟨0,aJ _,rfl,aJ _,hB2⟩
  case round=>
   obtain⟨k,hk,rfl,HI,hB⟩:=hrel;have cg:=hB.size;clear e8 e3 b1 b3 b4 c8 c3;by_cases ay:k<g.length
   ·obtain⟨g',off,rfl⟩:=fT.out (by omega);obtain⟨c0,W7⟩:=j9 (au HGl.out hB) ay;obtain⟨cU,b9,Mo,dM⟩:=ZT.out k ay;have Db:Hid (∀b,isFull s ⟨xk,bE,bz,bp,bh⟩ (g[k]'ay).1=b->(fun y:Ln×Value=>isFull s ⟨xk,bE,bz,bp,bh⟩ y.1) (g[k]'ay)=b):=fun b h=>h;rw[Mo]at W7;obtain⟨w3,rU⟩: ∃w3,w3=wr.alloc (.cells #[.string ⟨(g[k]'ay).1.ten.toArray⟩, .slice cU (g[k]'ay).1.ids.length b9] 176):=⟨_,rfl⟩;have iH:Below w0.heap.size w0 w3:=rU▸hB.alloc cg _;have k0:w3.cell? ⟨wr.heap.size,0,none⟩=some (.string ⟨(g[k]'ay).1.ten.toArray⟩):=by rw[rU,World.cell?,heap_alloc_new];rfl
    have k1:w3.cell? ⟨wr.heap.size,1,none⟩=some (.slice cU (g[k]'ay).1.ids.length b9):=by rw[rU,World.cell?,heap_alloc_new];rfl
    obtain⟨b1,b3,b4⟩:=HB.out _ iH;obtain⟨e8,e3⟩:=HS.out _ iH;have RV:=hide iH;have HW3:=hide rU;unfold isFull at Db;generalize(g[k]'ay).1.ids=ids at*;generalize(g[k]'ay).1.ten=ten at*;clear iH rU Mo;go_wp2_with fail;rw[<-HW3.out];cases hq:(ten==bp)
    ·have ig:Hid (k+1<=g.findIdx (fun y=>isFull s ⟨xk,bE,bz,bp,bh⟩ y.1)):=eI ay (Db.out false (by show(ten==bp &&_)=false;rw[hq];rfl)) HI.out;clear HI
     go_quiet (fail)
     go_wp2;go_roundw
     case rel=>exact⟨k+1,by omega,by go_num,ig,below_drewN RV.out _⟩
     case measure=>simp[intOf];omega
    ·by_cases py:s.c.bo<=((ids.length:Nat):Int)
     ·have Ws:Hid (g.any (fun y=>isFull s ⟨xk,bE,bz,bp,bh⟩ y.1)=true):=tA ay (Db.out true (by show(ten==bp &&decide (s.c.bo<=((ids.length:Nat):Int)))=true;rw[hq];simpa using py))
      go_quiet (fail)
      go_wp2_with fail;refine(HFU.out _ (below_drewN RV.out _) Z5.out Ws.out).mono ?_;rintro e w4⟨rfl,hg⟩;have HX:=hide (rJ.out _ _ ⟨rfl,hg⟩);go_wp2;go_end0;exact HX.out
     ·have ig:Hid (k+1<=g.findIdx (fun y=>isFull s ⟨xk,bE,bz,bp,bh⟩ y.1)):=eI ay (Db.out false (by show(ten==bp &&decide (s.c.bo<=((ids.length:Nat):Int)))=false;rw[hq];simpa using py)) HI.out;clear HI
      go_quiet (fail)
      go_wp2;go_roundw
      case rel=>exact⟨k+1,by omega,by go_num,ig,below_drewN RV.out _⟩
      case measure=>simp[intOf];omega
   ·have Ws:Hid (g.any (fun y=>isFull s ⟨xk,bE,bz,bp,bh⟩ y.1)=false):=qD (by have:=HI.out;omega);obtain rfl:k=g.length:=by omega
    obtain⟨b1,b3,b4⟩:=HB.out _ hB;have R8:wr.cell? ⟨p,6,none⟩=some m.rv:=by rw[hB.cell (p:=⟨p,6,none⟩) dc];exact c6
    have W7:wr.cell? ⟨p,1,none⟩=some (.int .i64 s.c.re):=by rw[hB.cell (p:=⟨p,1,none⟩) dc];exact c1
    have f6':wr.frozen? ⟨p,6,none⟩=false:=by rw[hB.frozen (p:=⟨p,6,none⟩) dc];exact f6
    have HBr:=hide hB;have PV:=au HO.out hB;obtain⟨G6,zG,aas,aar⟩:=YH PV;obtain⟨ao6,yc,zJ,_,_⟩:=bO zG;rw[zJ]at R8;have VF:=hide zJ;have sf:=hide zG;have Sz:=hide aas;have Sy:Hid (¬G6 w.heap.size):=fun h=>RZ.out (aar _ h);have Uc:p<wr.heap.size:=by omega
    have hbr:w.heap.size<wr.heap.size:=by omega
    have ZV:Hid (∀b,Below wr.heap.size wr b->(rowA 174 7 (.slice ao6 s.reqs.length yc) s.reqs.length (flat gV s.reqs)).holds b G6):=fun b hb=>by have:=au sf.out hb;rw[VF.out]at this;exact this
    have C9:Hid (∀w',Below wr.heap.size wr w'->w'.cell? ⟨p,6,none⟩=some (.slice ao6 s.reqs.length yc)∧w'.cell? ⟨p,1,none⟩=some (.int .i64 s.c.re)∧w'.cell? ⟨w.heap.size,1,none⟩=some (.int .i64 bE)∧w'.cell? ⟨w.heap.size,3,none⟩=some (.string ⟨bp.toArray⟩)∧w'.cell? ⟨w.heap.size,4,none⟩=some (.string ⟨bh.toArray⟩)):=fun w' hb=>⟨by rw[hb.cell (p:=⟨p,6,none⟩) Uc];exact R8,by rw[hb.cell (p:=⟨p,1,none⟩) Uc];exact W7,by rw[hb.cell (p:=⟨w.heap.size,1,none⟩) hbr];exact b1,by rw[hb.cell (p:=⟨w.heap.size,3,none⟩) hbr];exact b3,by rw[hb.cell (p:=⟨w.heap.size,4,none⟩) hbr];exact b4⟩
    clear HI ZT HGl fT HFU HS c6 c1 f6 hB zG aas aar zJ PV b1 b3 b4 R8 W7 hB2 cg;go_wp2_with fail;refine wp_region_noPanic ?_;refine qC (n:=22) (S:=fun w'=>w'.cell? ⟨p,6,none⟩=some (.slice ao6 s.reqs.length yc)∧w'.cell? ⟨p,1,none⟩=some (.int .i64 s.c.re)∧w'.cell? ⟨w.heap.size,1,none⟩=some (.int .i64 bE)∧w'.cell? ⟨w.heap.size,3,none⟩=some (.string ⟨bp.toArray⟩)∧w'.cell? ⟨w.heap.size,4,none⟩=some (.string ⟨bh.toArray⟩)) (by kernel_rfl) ?_;have dX:=C9.out wr.drew (ah _ _).drew;refine gX (i:=0) rfl dX ?_
    try simp only[Act.put,sT,s0,s1]
    refine gX (i:=1) rfl dX ?_
    try simp only[Act.put,sT,s0,s1]
    refine gX (i:=2) rfl dX ?_
    try simp only[Act.put,sT,s0,s1]
    refine gX (i:=3) rfl dX ?_
    try simp only[Act.put,sT,s0,s1]
    refine gX (i:=4) rfl dX ?_
    try simp only[Act.put,sT,s0,s1]
    refine gX (i:=5) rfl dX ?_
    try simp only[Act.put,sT,s0,s1]
    refine gX (i:=6) rfl dX ?_
    try simp only[Act.put,sT,s0,s1]
    refine gX (i:=7) rfl dX ?_
    try simp only[Act.put,sT,s0,s1]
    refine gX (i:=8) rfl dX ?_
    try simp only[Act.put,sT,s0,s1]
    refine gX (i:=9) rfl dX ?_
    try simp only[Act.put,sT,s0,s1]
    refine gX (i:=10) rfl dX ?_
    try simp only[Act.put,sT,s0,s1]
    refine gX (i:=11) rfl dX ?_
    try simp only[Act.put,sT,s0,s1]
    refine gX (i:=12) rfl dX ?_
    try simp only[Act.put,sT,s0,s1]
    refine gX (i:=13) rfl dX ?_
    try simp only[Act.put,sT,s0,s1]
    refine gX (i:=14) rfl dX ?_
    try simp only[Act.put,sT,s0,s1]
    refine gX (i:=15) rfl dX ?_
    try simp only[Act.put,sT,s0,s1]
    refine gX (i:=16) rfl dX ?_
    try simp only[Act.put,sT,s0,s1]
    refine gX (i:=17) rfl dX ?_
    try simp only[Act.put,sT,s0,s1]
    refine iu (i:=18) (by kernel_rfl) rfl ?_;intro K hK;go_simp;have tk:=C9.out ((wr.alloc (.cells #[.int .i64 bE, .int .i64 c, .string ⟨bp.toArray⟩, .string ⟨bh.toArray⟩, .int .i64 0, .int .i64 s.c.re, .bool false] 174)).drew) ((ah _ _).alloc (ae _) _).drew;refine hK.out _ _ (Or.inr tk) ?_;clear hK K
    try simp only[Act.put,sT,s0,s1]
    refine iu (i:=19) (by kernel_rfl) rfl ?_;intro K hK;refine fe _ (by rfl) _ _ _ (by rfl) 174 i6 _ 7 72 underlying157 hi6 hu0 hu1 hu2 rfl (by omega) (F:=G6) _ s.reqs.length (flat gV s.reqs) (by rfl) (ZV.out _ ((ah _ _).alloc (ae _) _).drew) ⟨wr.heap.size,0,none⟩ 1 1 [.int .i64 bE, .int .i64 c, .string ⟨bp.toArray⟩, .string ⟨bh.toArray⟩, .int .i64 0, .int .i64 s.c.re, .bool false] (by rfl) (by rfl) (World.news_of_block (cs:= #[.int .i64 bE, .int .i64 c, .string ⟨bp.toArray⟩, .string ⟨bh.toArray⟩, .int .i64 0, .int .i64 s.c.re, .bool false]) (t:=174) (fr:=(0,0)) (heap_alloc_new wr _)) (by simp[Value.oneCell']) (by unfold maxLen;omega) (by omega) ?_;intro NN cp7 w4 yE;have ZJ:=hide yE;have CZ:p<((wr.alloc (.cells #[.int .i64 bE, .int .i64 c, .string ⟨bp.toArray⟩, .string ⟨bh.toArray⟩, .int .i64 0, .int .i64 s.c.re, .bool false] 174)).drew).heap.size:=by simp;omega
    have NU:w.heap.size<((wr.alloc (.cells #[.int .i64 bE, .int .i64 c, .string ⟨bp.toArray⟩, .string ⟨bh.toArray⟩, .int .i64 0, .int .i64 s.c.re, .bool false] 174)).drew).heap.size:=by simp;omega
    have Z7:w4.cell? ⟨p,6,none⟩=some (.slice ao6 s.reqs.length yc)∧w4.cell? ⟨p,1,none⟩=some (.int .i64 s.c.re)∧w4.cell? ⟨w.heap.size,1,none⟩=some (.int .i64 bE)∧w4.cell? ⟨w.heap.size,3,none⟩=some (.string ⟨bp.toArray⟩)∧w4.cell? ⟨w.heap.size,4,none⟩=some (.string ⟨bh.toArray⟩):=⟨(yE.only.cell (p:=⟨p,6,none⟩) CZ Sz.out).trans tk.1,(yE.only.cell (p:=⟨p,1,none⟩) CZ Sz.out).trans tk.2.1,(yE.only.cell (p:=⟨w.heap.size,1,none⟩) NU Sy.out).trans tk.2.2.1,(yE.only.cell (p:=⟨w.heap.size,3,none⟩) NU Sy.out).trans tk.2.2.2.1,(yE.only.cell (p:=⟨w.heap.size,4,none⟩) NU Sy.out).trans tk.2.2.2.2⟩;have f4:w4.frozen? ⟨p,6,none⟩=false:=(yE.only.frozen (p:=⟨p,6,none⟩) CZ Sz.out).trans (((((ah wr.heap.size wr).alloc (ae _) _).drew).frozen (p:=⟨p,6,none⟩) Uc).trans f6');refine hK.out _ _ (Or.inr Z7) ?_;clear hK K yE
    try simp only[Act.put,sT,s0,s1]
    refine gX (i:=20) rfl Z7 ?_
    try simp only[Act.put,sT,s0,s1]
    refine gX (i:=21) rfl Z7 ?_
    try simp only[Act.put,sT,s0,s1]
    refine iu (i:=22) (by kernel_rfl) rfl ?_;intro K hK;have y7:=Z7.1;go_simp;refine hK.out _ _ (Or.inl rfl) ?_;refine qB (by kernel_rfl) (NoPanic.normal ?_) _;have xf:Hid (Goes (aI p {s with reqs:=s.reqs++ [Bj s c ⟨xk,bE,bz,bp,bh⟩]} {m with rv:= .slice NN (s.reqs.length+1) cp7} g) w0 F (w4.setCell ⟨p,6,none⟩ (.slice NN (s.reqs.length+1) cp7))):=by have PV:=au HO.out HBr.out;refine((Goes.refl HO.out).below HBr.out).trans fun F' dR=> ?_;rw[bF dR PV];refine U5 (G:=G6) (w1:=(wr.alloc (.cells #[.int .i64 bE, .int .i64 c, .string ⟨bp.toArray⟩, .string ⟨bh.toArray⟩, .int .i64 0, .int .i64 s.c.re, .bool false] 174)).drew) PV ((ah _ _).alloc (ae _) _).drew (au sf.out ((ah _ _).alloc (ae _) _).drew) ?_;unfold dO;rw[dL,aN];exact ZJ.out
    have z1:(w4.setCell ⟨p,6,none⟩ (.slice NN (s.reqs.length+1) cp7)).cell? ⟨w.heap.size,1,none⟩=some (.int .i64 bE):=by obtain⟨_,_,o5,_⟩:=xf.out;rw[o5.cell (p:=⟨w.heap.size,1,none⟩) (show w.heap.size<_ by omega) RZ.out];exact(HB.out w0 (ah _ _)).1
    clear hK K y7 Z7 f4 tk dX ZJ sf ZV C9 CZ NU f6' Sz Sy VF;obtain⟨w5,Ug⟩: ∃w5,w5=w4.setCell ⟨p,6,none⟩ (.slice NN (s.reqs.length+1) cp7):=⟨_,rfl⟩;rw[<-Ug];rw[<-Ug]at xf z1;clear Ug;have gq:Hid (Calls prog 102 #[.pointer (some ⟨p,0,none⟩), .int .i64 c, .string ((⟨#[97,99,99,32]⟩:ByteArray)++⟨fi.toArray⟩)] w5 fun e w'=>e= .returned (.tuple #[])∧Goes (aU p (({s with reqs:=s.reqs++ [Bj s c ⟨xk,bE,bz,bp,bh⟩]}:St).say c ([97,99,99,32]++fi))) w0 F w'):=by obtain⟨F5,nZ,_,_⟩:=xf.out;rw[CN [97,99,99,32] fi];refine(lW p c _ _ _ g w5 F5 nZ (by show s.out.length<=_;omega) (by simp;omega)).mono ?_;rintro e w'⟨rfl,nk,hg⟩;refine⟨rfl,cI (m:={m with rv:= .slice NN (s.reqs.length+1) cp7,ov:=nk}) (g:=g) HR.out (Goes.trans xf.out fun F' dR=> ?_)⟩;rw[bF dR nZ];exact hg
    go_wp2_with fail;refine gq.out.mono ?_;rintro e w6⟨rfl,iJ⟩;have sf:=hide iJ;have z1':w6.cell? ⟨w.heap.size,1,none⟩=some (.int .i64 bE):=by obtain⟨_,_,o6,_⟩:=sf.out;rw[o6.cell (p:=⟨w.heap.size,1,none⟩) (show w.heap.size<_ by omega) RZ.out];exact(HB.out w0 (ah _ _)).1
    have Oi:Hid (Calls prog 109 #[.pointer (some ⟨p,0,none⟩), .int .i64 bE, .bool false] w6 (fZ p (s.bU c ⟨xk,bE,bz,bp,bh⟩) w0 F)):=by
     obtain⟨F6,xu,_,_⟩:=sf.out;obtain⟨hni,NY⟩:=UK HV.out.inv c ⟨xk,bE,bz,bp,bh⟩ Z5.out;refine(nX p bE false _ (St.bM hni _ _) (by rw[St.Ri];exact NY) w6 F6 xu (by show(s.reqs++ [_]).length<=_;simp;omega)).mono ?_;rintro e w'⟨rfl,hg⟩;refine⟨rfl, ?_⟩;have e:s.bU c ⟨xk,bE,bz,bp,bh⟩=((({s with reqs:=s.reqs++ [Bj s c ⟨xk,bE,bz,bp,bh⟩]}:St).say c ([97,99,99,32]++fi))).a6 bE false:=by
      have h1: ¬((s.req bE).isSome=true):=by rw[Z5.out];simp
      have h2: ¬(s.ring.any (isFull s ⟨xk,bE,bz,bp,bh⟩)=true):=by rw[Pg HR.out,Ws.out];simp
      unfold St.bU;rw[if_neg h1,<-jY.out];exact if_neg h2
     rw[e];exact Goes.trans sf.out fun F' dR=>by rw[eG dR xu];exact hg
    clear iJ z1 gq xf;go_wp2_with fail;refine Oi.out.mono ?_;rintro e w7⟨rfl,hg⟩;have HX:=hide (rJ.out _ _ ⟨rfl,hg⟩);go_wp2;go_end0;exact HX.out
 ·have HRS:Hid ((s.req bE).isSome=true):=by
   obtain⟨_,_,h,_⟩:=qh ju;show(s.req bE).isSome=true;rw[h];rfl
  have PI:jV (s.reqs.findIdx? (·.id==bE))=((j:Nat):Int):=by rw[ju];rfl
  rw[PI];have hj0:(0:Int)<=((j:Nat):Int):=by omega
  clear ju PI HQ;go_wp2_with fail;refine(HD.out _ hB2 HRS.out).mono ?_;rintro e w3⟨rfl,hg⟩;have HX:=hide (rJ.out _ _ ⟨rfl,hg⟩);go_wp2;go_end0;exact HX.out
variable{p N:Nat}{w:World}{F:Ft}{s:St}
theorem cW{P:Program}{f:FuncId}{args:Array Value}{s1 s2:St}{w1:World}(h:Goes (aU p s1) w F w1)(hc: ∀F1,(aU p s1).holds w1 F1->Calls P f args w1 (fZ p s2 w1 F1)):Calls P f args w1 (fZ p s2 w F):=by obtain⟨F1,h1,o1,n1⟩:=h;refine(hc F1 h1).mono ?_;rintro e w2⟨rfl,hg⟩;exact⟨rfl,Goes.trans ⟨F1,h1,o1,n1⟩ fun F' dR=>by rw[eG dR h1];exact hg⟩
theorem xp{N':Nat}(h:Fine N s)(hn:N<=N'):Fine N' s:=⟨h.inv,h.bd,aw h.sz hn⟩
theorem DW(h:Fine N s)(c:Int)(t:Bs):Fine (N+1) (s.say c t):=⟨St.bM h.inv _ _,h.bd.say _ _,by rw[St.eZ];have:=h.sz;omega⟩
theorem Q5{id:Int}{j:Nat}(h:s.reqs.findIdx? (·.id==id)=some j): ∃hj:j<s.reqs.length,s.req id=some (s.reqs[j]'hj)∧id∈s.ks.map (·.1):=by obtain⟨hj,hid,hr,_⟩:=qh h;exact⟨hj,hr,aA.2 ⟨_,aA.2 ⟨_,aY hj,rfl⟩,hid⟩⟩
theorem vz{α:Type}(o:Option α):o=none∨ ∃x,o=some x:=by cases o<;>simp
theorem sN(K:ByteArray){bE:Int}(bz:Int)(bp bh:Bs)(hid:0<=bE∧bE<=999999)(hl:s.out.length<=N∧s.af.length<=N∧s.wait.length<=N∧s.reqs.length<=N∧s.aq.length<=N)(hN:N<=16777000)(hm:(aU p s).holds w F): ∃m g w0 fi,w0.heap.size=w.heap.size+1∧p<w0.heap.size∧p<w.heap.size∧Hid (∀s2 e w',fZ p s2 w0 F e w'->fZ p s2 w F e w')∧Hid (∀w',Below w0.heap.size w0 w'->w'.cell? ⟨w.heap.size,0,none⟩=some (.string K)∧w'.cell? ⟨w.heap.size,1,none⟩=some (.int .i64 bE)∧w'.cell? ⟨w.heap.size,2,none⟩=some (.int .i64 bz)∧w'.cell? ⟨w.heap.size,3,none⟩=some (.string ⟨bp.toArray⟩)∧w'.cell? ⟨w.heap.size,4,none⟩=some (.string ⟨bh.toArray⟩))∧Hid (∀w':World,Calls prog 103 #[.int .i64 bE] w' fun e dV=>e= .returned (.string ⟨fi.toArray⟩)∧Below w'.heap.size w' dV)∧Hid (∀w',Below w0.heap.size w0 w'->Calls prog 106 #[.pointer (some ⟨p,0,none⟩), .int .i64 bE] w' fun e dV=>e= .returned (.int .i64 (jV (s.reqs.findIdx? (·.id==bE))))∧Below w'.heap.size w' dV)∧Hid (∀w',Below w0.heap.size w0 w'->(aU p s).holds w' F)∧Hid (∀(s2:St) (e:Ending) (w' dV:World),Below w0.heap.size w0 w'->fZ p s2 w' F e dV->fZ p s2 w0 F e dV)∧Hid (∀w',Below w0.heap.size w0 w'->Goes (aU p s) w0 F w')∧Hid (∀(A:aM) (w':World),Goes A w0 F w'->w'.cell? ⟨w.heap.size,1,none⟩=some (.int .i64 bE)∧w'.cell? ⟨w.heap.size,4,none⟩=some (.string ⟨bh.toArray⟩))∧Hid (∀w',Below w0.heap.size w0 w'->Goes (aI p s m g) w0 F w')∧Hid ((aI p s m g).holds w0 F)∧Hid (g.map (·.1)=s.ring)∧Hid (MF w0 p s m g)∧Hid (¬F w.heap.size)∧fi.length<=20∧Hid (w0=w.alloc (.cells #[.string K, .int .i64 bE, .int .i64 bz, .string ⟨bp.toArray⟩, .string ⟨bh.toArray⟩] 113))∧Hid (cJ bE=fi):=by
 obtain⟨m,g,hr,az⟩:=bD hm;obtain⟨w0,nj⟩: ∃w0,w0=w.alloc (.cells #[.string K, .int .i64 bE, .int .i64 bz, .string ⟨bp.toArray⟩, .string ⟨bh.toArray⟩] 113):=⟨_,rfl⟩;have Kq:Below w.heap.size w w0:=nj▸(ah _ _).alloc (ae _) _;have cP:w0.heap[w.heap.size]?=some (.cells #[.string K, .int .i64 bE, .int .i64 bz, .string ⟨bp.toArray⟩, .string ⟨bh.toArray⟩] 113 (0,0)):=by rw[nj];exact heap_alloc_new w _
 have BW:w0.heap.size=w.heap.size+1:=by rw[nj];simp
 have vT:(aU p s).holds w0 F:=(aU p s).keep hm (fun q hq=>Kq.block q ((aU p s).lt hm q hq));have kt:(aI p s m g).holds w0 F:=au az Kq;have NR: ¬F w.heap.size:=fun h=>by have:=(aU p s).lt hm _ h;omega
 have dU:=bR hr kt;have HB:Hid (∀w',Below w0.heap.size w0 w'->w'.cell? ⟨w.heap.size,0,none⟩=some (.string K)∧w'.cell? ⟨w.heap.size,1,none⟩=some (.int .i64 bE)∧w'.cell? ⟨w.heap.size,2,none⟩=some (.int .i64 bz)∧w'.cell? ⟨w.heap.size,3,none⟩=some (.string ⟨bp.toArray⟩)∧w'.cell? ⟨w.heap.size,4,none⟩=some (.string ⟨bh.toArray⟩)):=fun w' hb=>by
  have h: ∀j,w'.cell? ⟨w.heap.size,j,none⟩=(#[.string K, .int .i64 bE, .int .i64 bz, .string ⟨bp.toArray⟩, .string ⟨bh.toArray⟩]:Array Value)[j]?:=fun j=>by rw[hb.cell (p:=⟨w.heap.size,j,none⟩) (show w.heap.size<_ by omega),World.cell?,cP];rfl
  exact⟨h 0,h 1,h 2,h 3,h 4⟩
 refine⟨m,g,w0,cJ bE,BW,dU.lt,(bR hr az).lt,fun s2 e w' h=>⟨h.1,Goes.trans ((Goes.refl hm).below Kq) fun F' dR=>by rw[eG dR vT];exact h.2⟩,HB,fun w'=>kO bE (by omega) (by omega) w',fun w' hb=>mK p bE s m g w' (dU.below hb) (by omega),
  fun w' hb=>(aU p s).keep vT (fun q hq=>hb.block q ((aU p s).lt vT q hq)),fun s2 e w' dV hb h=>⟨h.1,Goes.trans ((Goes.refl vT).below hb) fun F2 eX=>by rw[eG eX ((aU p s).keep vT (fun q hq=>hb.block q ((aU p s).lt vT q hq)))];exact h.2⟩,
  fun w' hb=>(Goes.refl vT).below hb,fun A w' h=> ?_,fun w' hb=>(Goes.refl kt).below hb,kt,hr,dU,NR,fh _,nj,rfl⟩
 obtain⟨_,h1,_,_,h4⟩:=HB.out w0 (ah _ _);obtain⟨_,_,o,_⟩:=h;exact⟨by rw[o.cell (p:=⟨w.heap.size,1,none⟩) (show w.heap.size<_ by omega) NR];exact h1,by rw[o.cell (p:=⟨w.heap.size,4,none⟩) (show w.heap.size<_ by omega) NR];exact h4⟩
theorem qp(s:St)(c bE bz:Int)(bp bh:Bs):s.message c ⟨gi,bE,bz,bp,bh⟩=match s.req bE with
  |none=>s.say c ([110,111,110,101,32]++cJ bE)
  |some r=>if r.conn==c then(s.say c ([103,111,110,101,32]++cJ bE)).shut bE else s.say c ([110,111,110,101,32]++cJ bE):=by
 unfold St.message;dsimp only;rw[if_neg (by decide),if_pos rfl];cases s.req bE<;>rfl
set_option linter.unusedSimpArgs false in
theorem E3(p:Nat)(c:Int)(bE bz:Int)(bp bh:Bs)(hx:Bd.bJ ⟨fC,bE,bz,bp,bh⟩)(s:St)(hv:Fine 16775000 s)(w:World)(F:Ft)(hm:(aU p s).holds w F):Calls prog 146 #[.pointer (some ⟨p,0,none⟩), .int .i64 c, .agg #[.string ⟨#[115,117,98]⟩, .int .i64 bE, .int .i64 bz, .string ⟨bp.toArray⟩, .string ⟨bh.toArray⟩]] w (fZ p (s.message c ⟨fC,bE,bz,bp,bh⟩) w F):=by
 have hl:=hv.lens;have mX:0<=bE∧bE<=999999:=hx.id;have GS:bp.length<=64:=hx.ten;have Wi:bh.length<=64:=hx.txt;obtain⟨m,g,w0,fi,BW,dc,XY,rJ,HB,pB,HQ,HK,WS,wK,RX,nt,HO,HR,HM,RZ,ng,vJ,jY⟩:=sN ⟨#[115,117,98]⟩ bz bp bh mX hl (by omega) hm;have HV:=hide hv;clear hm hv hx;obtain⟨b0,b1,b2,b3,b4⟩:=HB.out w0 (ah _ _);go_enter func146,ntmps146;go_wp2_with fail;rw[<-vJ.out];refine(pB.out _).mono ?_;rintro e w1⟨rfl,hB1⟩;obtain⟨d0,d1,d2,d3,d4⟩:=HB.out _ hB1;clear b0 b1 b2 b3 b4;go_wp2_with fail;refine(HQ.out _ hB1).mono ?_;rintro e w2⟨rfl,bN⟩;have hB2:=bj hB1 bN;obtain⟨b0,b1,b2,b3,b4⟩:=HB.out _ hB2;clear d0 d1 d2 d3 d4 bN hB1 HQ pB vJ;have Ae: ¬9223372036854775807<4+fi.length:=by omega
 have oJ: ¬9223372036854775807<5+fi.length:=by omega
 have HX:Hid (Bd.bJ ⟨fC,bE,bz,bp,bh⟩):=⟨mX,GS,Wi⟩;generalize jV (s.reqs.findIdx? (·.id==bE))=ix at*;have kx:=sY p c ⟨fC,bE,bz,bp,bh⟩ HX.out s ⟨HV.out.inv,HV.out.bd,aw HV.out.sz (by omega)⟩ w2 F (HK.out _ hB2);have abJ:Hid (Calls prog 187 #[.pointer (some ⟨p,0,none⟩), .int .i64 c, .agg #[.string ⟨#[115,117,98]⟩, .int .i64 bE, .int .i64 bz, .string ⟨bp.toArray⟩, .string ⟨bh.toArray⟩]] w2 (fZ p (s.bU c ⟨fC,bE,bz,bp,bh⟩) w2 F)):=kx;clear kx;go_wp2_with fail;refine abJ.out.mono ?_;intro e w3 hu;have HX:=hide (rJ.out _ _ _ (WS.out _ _ _ _ hB2 hu));obtain⟨rfl,_⟩:=hu;go_wp2;go_end0;exact HX.out
set_option linter.unusedSimpArgs false in
theorem E1(p:Nat)(c:Int)(bE bz:Int)(bp bh:Bs)(hx:Bd.bJ ⟨gi,bE,bz,bp,bh⟩)(s:St)(hv:Fine 16775000 s)(w:World)(F:Ft)(hm:(aU p s).holds w F):Calls prog 146 #[.pointer (some ⟨p,0,none⟩), .int .i64 c, .agg #[.string ⟨#[99,97,110]⟩, .int .i64 bE, .int .i64 bz, .string ⟨bp.toArray⟩, .string ⟨bh.toArray⟩]] w (fZ p (s.message c ⟨gi,bE,bz,bp,bh⟩) w F):=by
 have hl:=hv.lens;have mX:0<=bE∧bE<=999999:=hx.id;have GS:bp.length<=64:=hx.ten;have Wi:bh.length<=64:=hx.txt;obtain⟨m,g,w0,fi,BW,dc,XY,rJ,HB,pB,HQ,HK,WS,wK,RX,nt,HO,HR,HM,RZ,ng,vJ,jY⟩:=sN ⟨#[99,97,110]⟩ bz bp bh mX hl (by omega) hm;have HV:=hide hv;clear hm hv hx;obtain⟨b0,b1,b2,b3,b4⟩:=HB.out w0 (ah _ _);go_enter func146,ntmps146;go_wp2_with fail;rw[<-vJ.out];refine(pB.out _).mono ?_;rintro e w1⟨rfl,hB1⟩;obtain⟨d0,d1,d2,d3,d4⟩:=HB.out _ hB1;clear b0 b1 b2 b3 b4;go_wp2_with fail;refine(HQ.out _ hB1).mono ?_;rintro e w2⟨rfl,bN⟩;have hB2:=bj hB1 bN;obtain⟨b0,b1,b2,b3,b4⟩:=HB.out _ hB2;clear d0 d1 d2 d3 d4 bN hB1 HQ pB vJ;have Ae: ¬9223372036854775807<4+fi.length:=by omega
 have oJ: ¬9223372036854775807<5+fi.length:=by omega
 have VD:Hid (∀w',Below w0.heap.size w0 w'->(∀r,s.req bE=some r->(r.conn==c)=false)->Calls prog 102 #[.pointer (some ⟨p,0,none⟩), .int .i64 c, .string ((⟨#[110,111,110,101,32]⟩:ByteArray)++⟨fi.toArray⟩)] w' (fZ p (s.message c ⟨gi,bE,bz,bp,bh⟩) w0 F)):=fun w' hb h=>by
  rw[CN [110,111,110,101,32] fi];have e:s.message c ⟨gi,bE,bz,bp,bh⟩=s.say c ([110,111,110,101,32]++fi):=by
   rw[qp,jY.out];cases hq:s.req bE with
   |none=>rfl
   |some r=>dsimp only;rw[h r hq];rfl
  rw[e];exact cW (wK.out w' hb) fun F1 h1=>mL p c _ s w' F1 h1 (by omega) (by simp;omega)
 rcases vz (s.reqs.findIdx? (·.id==bE))with ju|⟨j,ju⟩
 ·have Z5:=hide (Q7.1 ju);rw[ju];clear ju;go_wp2_with fail;refine(VD.out _ hB2 (fun r h=>by rw[Z5.out]at h;cases h)).mono ?_;intro e w3 hu;have HX:=hide (rJ.out _ _ _ hu);obtain⟨rfl,_⟩:=hu;go_wp2;go_end0;exact HX.out
 ·obtain⟨eP,u7,hid⟩:=Q5 ju;rw[ju];obtain⟨g1,off,cap,zJ,rF,⟨G,hG⟩,c6⟩:=FK (HM.out.below hB2) (by omega);obtain⟨_,c1,_,_,_,_,_⟩:=fH hG eP;have rA:=hide u7;have AH:=hide hid;have Sc:(0:Int)<=((j:Nat):Int):=by omega
  have BO:((j:Nat):Int)<((s.reqs.length:Nat):Int):=by omega
  have Ec:jV (some j)=((j:Nat):Int):=rfl;rw[Ec];clear ju u7 hid hG zJ Ec;generalize(s.reqs[j]'eP)=r at*;have NW:decide (((j:Nat):Int)<0)=false:=by simp
  cases hq:(r.conn==c)
  ·have HQN:=hide hq;have wT:(r.conn !=c)=true:=by unfold bne;rw[hq];rfl
   go_wp2_with fail;refine(VD.out _ hB2 (fun r' h=>by rw[rA.out]at h;cases h;exact HQN.out)).mono ?_;intro e w3 hu;have HX:=hide (rJ.out _ _ _ hu);obtain⟨rfl,_⟩:=hu;go_wp2;go_end0;exact HX.out
  ·have HQN:=hide hq;have wT:(r.conn !=c)=false:=by unfold bne;rw[hq];rfl
   have gq:Hid (Calls prog 102 #[.pointer (some ⟨p,0,none⟩), .int .i64 c, .string ((⟨#[103,111,110,101,32]⟩:ByteArray)++⟨fi.toArray⟩)] w2 (fZ p (s.say c ([103,111,110,101,32]++fi)) w0 F)):=by rw[CN [103,111,110,101,32] fi];exact cW (wK.out w2 hB2) fun F1 h1=>mL p c _ s w2 F1 h1 (by omega) (by simp;omega)
   go_wp2_with fail;refine gq.out.mono ?_;rintro e w3⟨rfl,mW⟩;have NI:=hide mW;obtain⟨y1,y4⟩:=RX.out _ _ mW;clear mW;go_wp2_with fail;have oh:Calls prog 112 #[.pointer (some ⟨p,0,none⟩), .int .i64 bE] w3 (fZ p (s.message c ⟨gi,bE,bz,bp,bh⟩) w0 F):=by
    have e:s.message c ⟨gi,bE,bz,bp,bh⟩=(s.say c ([103,111,110,101,32]++fi)).shut bE:=by rw[qp,jY.out,rA.out];dsimp only;rw[HQN.out];rfl
    rw[e];exact cW NI.out fun F1 h1=>jh p bE _ (xp (DW HV.out _ _) (by omega)) AH.out w3 F1 h1
   refine oh.mono ?_;intro e w4 hu;have HX:=hide (rJ.out _ _ _ hu);obtain⟨rfl,_⟩:=hu;go_wp2;go_end0;exact HX.out
variable{k p:Nat}{s:St}{m:MV}{g:List (Ln×Value)}{w:World}{F:Ft}
theorem kA(s:St)(c bE bz:Int)(bp bh:Bs):s.message c ⟨eF,bE,bz,bp,bh⟩=if s.wait.any (· ==c)then s else if(s.conn c).drains c then s.conn c else{s.conn c with wait:=(s.conn c).wait++ [c]}:=by unfold St.message;dsimp only;rw[if_neg (by decide),if_neg (by decide),if_pos rfl]
theorem Ow{α:Type}{p:α->Bool}{l:List α}(hk:k<l.length):(l.take (k+1)).any p=((l.take k).any p||p (l[k]'hk)):=by rw[fp hk,List.any_append];simp
theorem LG{c:Int}(hk:k<s.aq.length)(hn:(s.aq[k]'hk).n=c)(hi:k<=s.aq.findIdx (·.n==c)):s.drains c=(s.aq[k]'hk).drains:=by
 have h:=jF (p:=fun x:Cn=>x.n==c) hk (by simpa using hn) hi;have h2:s.aq.find? (·.n==c)=some (s.aq[k]'hk):=by have:=List.findIdx?_eq_some_iff_getElem.1 h;obtain⟨_,hp,hq⟩:=this;rw[List.find?_eq_some_iff_getElem];exact⟨hp,k,hk,rfl,fun j hj=>by simpa using hq j hj⟩
 unfold St.drains;rw[h2]
theorem Vs{w1 w2:World}{G:Ft}{v:Value}{x:Int}(az:(aI p s m g).holds w F)(hb:Below w.heap.size w w1)(hG:(inA m.wv s.wait).holds w1 G)(bK:Goes (inA v (s.wait++ [x])) w1 G w2):Goes (aI p {s with wait:=s.wait++ [x]} {m with wv:=v} g) w F (w2.setCell ⟨p,9,none⟩ v):=by have h0:Goes (aI p s m g) w F w1:=(Goes.refl az).below hb;rw[oU]at h0;have h1:=h0.part (cZ _ _ _ _ _) hG bK;have h2:=(h1.eq (bq _ _ _)).store 9 v;refine h2.eq ?_;rw[oU,bq];rfl
theorem YV(az:(aI p s m g).holds w F): ∃G,(inA m.wv s.wait).holds w G∧ ¬G p:=by rw[oU]at az;obtain⟨X,Y,hx,⟨B,_,hb,_,_,ey⟩,d,_⟩:=az;exact⟨X,hx,fun h=>d p h ((ey p).2 (.inl ((hb.2 p).2 rfl)))⟩
set_option linter.unusedSimpArgs false in
theorem Cr(p:Nat)(c:Int)(bE bz:Int)(bp bh:Bs)(hx:Bd.bJ ⟨eF,bE,bz,bp,bh⟩)(s:St)(hv:Fine 16775000 s)(w:World)(F:Ft)(hm:(aU p s).holds w F):Calls prog 146 #[.pointer (some ⟨p,0,none⟩), .int .i64 c, .agg #[.string ⟨#[112,117,108,108]⟩, .int .i64 bE, .int .i64 bz, .string ⟨bp.toArray⟩, .string ⟨bh.toArray⟩]] w (fZ p (s.message c ⟨eF,bE,bz,bp,bh⟩) w F):=by
 have hl:=hv.lens;have mX:0<=bE∧bE<=999999:=hx.id;have GS:bp.length<=64:=hx.ten;have Wi:bh.length<=64:=hx.txt;obtain⟨m,g,w0,fi,BW,dc,XY,rJ,HB,pB,HQ,HK,WS,wK,RX,nt,HO,HR,HM,RZ,ng,vJ,jY⟩:=sN ⟨#[112,117,108,108]⟩ bz bp bh mX hl (by omega) hm;have HV:=hide hv;clear hm hv hx;obtain⟨b0,b1,b2,b3,b4⟩:=HB.out w0 (ah _ _);go_enter func146,ntmps146;go_wp2_with fail;rw[<-vJ.out];refine(pB.out _).mono ?_;rintro e w1⟨rfl,hB1⟩;obtain⟨d0,d1,d2,d3,d4⟩:=HB.out _ hB1;clear b0 b1 b2 b3 b4;go_wp2_with fail;refine(HQ.out _ hB1).mono ?_;rintro e w2⟨rfl,bN⟩;have hB2:=bj hB1 bN;obtain⟨b0,b1,b2,b3,b4⟩:=HB.out _ hB2;clear d0 d1 d2 d3 d4 bN hB1 HQ pB vJ;have Ae: ¬9223372036854775807<4+fi.length:=by omega
 have oJ: ¬9223372036854775807<5+fi.length:=by omega
 obtain⟨i0,hi,gI,dN,fS⟩:=info_parts B7;generalize jV (s.reqs.findIdx? (·.id==bE))=ix at*;obtain⟨ao,cap,G,c9,HG,fT⟩:=(HM.out.below hB2).RR;have SM:Hid (∀b,s.wait.any (· ==c)=b->(s.wait.take s.wait.length).any (· ==c)=b):=fun b h=>by rw[List.take_length];exact h
 have D3:=ny p c s m g w2 F HR.out (au HO.out hB2) (by omega);have N9:Hid (Calls prog 98 #[.pointer (some ⟨p,0,none⟩), .int .i64 c] w2 (xJ p s c m g w2 F)):=D3;clear D3;go_wp2
 go_loop [8,66] (fun b i=> ∃k:Nat,k<=s.wait.length∧i= .int .i64 k∧ ∃bb:Bool,b= .bool bb∧Hid ((s.wait.take k).any (· ==c)=bb)) (fun _ i=>s.wait.length-(intOf i).toNat)
 case atStart=>exact⟨0,aJ _,rfl,false,rfl,by show _=_;simp⟩
 case round=>
  obtain⟨k,hk,rfl,bb,rfl,HI⟩:=hrel;by_cases ay:k<s.wait.length
  ·obtain⟨g',off,rfl⟩:=fT.out (by omega);have c0:=qQ HG.out ay;have ig:Hid ((s.wait.take (k+1)).any (· ==c)=(bb||((s.wait[k]'ay)==c))):=by show _=_;rw[Ow ay,HI.out]
   clear HI;cases bb
   ·go_wp2
    go_round
    case rel=>exact⟨k+1,by omega,by go_num,_,rfl,ig⟩
    case measure=>simp[intOf];omega
   ·go_wp2
    go_round
    case rel=>exact⟨k+1,by omega,by go_num,true,rfl,ig⟩
    case measure=>simp[intOf];omega
  ·obtain rfl:k=s.wait.length:=by omega
   rw[List.take_length]at HI;cases bb
   ·go_wp2_with fail;refine N9.out.mono ?_;rintro e w3⟨g1,off,cp,k,jU,rfl,hn,Ac,mW⟩;have NI:Hid (Goes (aI p (s.conn c) {m with cv:= .slice (some ⟨g1,off,none⟩) (s.conn c).aq.length cp} g) w0 F w3):=(nt.out _ hB2).trans fun F' dR=>by rw[bF dR (au HO.out hB2)];exact mW
    obtain⟨F3,iX,_,_⟩:=mW;have KG:g.map (·.1)=(s.conn c).ring:=by rw[HR.out];unfold St.conn;split<;>rfl
    have HRC:=hide KG;have V2:=bR KG iX;obtain⟨Gc,zH⟩:=V2.cn;obtain⟨-,-,e2,-⟩:=gL zH jU;have C3:=hide (LG jU hn Ac);have sG:=(dK zH).1;rw[<-C3.out]at e2;have hwc:(s.conn c).wait=s.wait:=by unfold St.conn;split<;>rfl
    have HWC:=hide hwc;have hp3:=V2.lt;have e9:w3.cell? ⟨p,9,none⟩=some m.wv:=V2.cell 9;have f9:w3.frozen? ⟨p,9,none⟩=false:=V2.frozen 9;obtain⟨Gw,hGw,aaw⟩:=YV iX;have TJ:(inA m.wv s.wait).holds w3 Gw:=by rw[<-hwc];exact hGw
    obtain⟨aow,abW,N4,_,_⟩:=bO TJ;rw[N4]at e9 TJ;have HWV:=hide N4;have HGW:=hide TJ;have ZL:=hide aaw;have HO3:=hide iX;clear iX V2 zH hn Ac KG sG hwc hGw TJ aaw N4 N9;cases hd:(s.conn c).drains c
    ·rw[hd]at e2;go_wp2_with (at_builtin;go_must(refine aC _ rfl _ _ 36 rfl 3 i0 (.int .i64 0) 1 8 underlying36 hi gI dN fS rfl (by decide) (F:=Gw) _ s.wait.length (flat mY s.wait) rfl (au HGW.out ((ah _ _).alloc (ae _) _)) ⟨w3.heap.size,0,none⟩ 1 1 [.int .i64 c] rfl rfl (World.news_of_block (cs:= #[.int .i64 c]) (t:=3) (fr:=(0,0)) (heap_alloc_new w3 _)) (by simp[Value.oneCell']) (by unfold maxLen;omega) (by omega) ?main))
     case main=>
      intro Lh Xb w4 bK;have CZ:p<(w3.alloc (.cells #[.int .i64 c] 3)).heap.size:=by simp;omega
      have k9:w4.cell? ⟨p,9,none⟩=some (.slice aow s.wait.length abW):=(bK.only.cell (p:=⟨p,9,none⟩) CZ ZL.out).trans ((((ah w3.heap.size w3).alloc (ae _) _).cell (p:=⟨p,9,none⟩) hp3).trans e9);have kf:w4.frozen? ⟨p,9,none⟩=false:=(bK.only.frozen (p:=⟨p,9,none⟩) CZ ZL.out).trans ((((ah w3.heap.size w3).alloc (ae _) _).frozen (p:=⟨p,9,none⟩) hp3).trans f9);have HX:Hid (fZ p (s.message c ⟨eF,bE,bz,bp,bh⟩) w F (.returned (.tuple #[])) (w4.setCell ⟨p,9,none⟩ (.slice Lh (s.wait.length+1) Xb))):=by
       refine rJ.out _ _ _ ⟨rfl, ?_⟩;rw[kA,if_neg (by rw[HI.out];simp),if_neg (by rw[hd];simp)];refine cI (s:={s.conn c with wait:=(s.conn c).wait++ [c]}) (m:={m with cv:= .slice (some ⟨g1,off,none⟩) (s.conn c).aq.length cp,wv:= .slice Lh (s.wait.length+1) Xb}) (g:=g) HRC.out ?_;refine NI.out.trans fun F' dR=> ?_;refine Vs (s:=s.conn c) (m:={m with cv:= .slice (some ⟨g1,off,none⟩) (s.conn c).aq.length cp}) (G:=Gw) (w1:=w3.alloc (.cells #[.int .i64 c] 3)) dR ((ah _ _).alloc (ae _) _) ?_ ?_
       ·rw[HWC.out];show(inA m.wv s.wait).holds _ Gw;rw[HWV.out];exact au HGW.out ((ah _ _).alloc (ae _) _)
       ·rw[HWC.out];unfold inA;rw[dL,aN];exact bK
      clear bK;go_wp2;go_end0;exact HX.out
    ·rw[hd]at e2;have HX:Hid (fZ p (s.message c ⟨eF,bE,bz,bp,bh⟩) w F (.returned (.tuple #[])) w3):=by
      refine rJ.out _ _ _ ⟨rfl, ?_⟩;rw[kA,if_neg (by rw[HI.out];simp),if_pos hd];exact cI HRC.out NI.out
     go_wp2;go_end0;exact HX.out
   ·have HX:Hid (fZ p (s.message c ⟨eF,bE,bz,bp,bh⟩) w F (.returned (.tuple #[])) w2):=by
     refine rJ.out _ _ _ ⟨rfl, ?_⟩;rw[kA,if_pos HI.out];exact wK.out _ hB2
    go_wp2;go_end0;exact HX.out
variable{p k:Nat}{s:St}{m:MV}{g:List (Ln×Value)}{w:World}{c t:Int}{l:List At}
theorem xa(s:St)(c bE bz:Int)(bp bh:Bs):s.message c ⟨eU,bE,bz,bp,bh⟩={s with af:=s.af.map (fun a=>if a.conn==c then{a with eV:=s.now+s.c.le}else a)}:=by unfold St.message;dsimp only;rw[if_neg (by decide),if_neg (by decide),if_neg (by decide),if_pos rfl]
theorem at_set{F:Ft}{g1 off cap j:Nat}(az:(aI p s m g).holds w F)(yy:m.av= .slice (some ⟨g1,off,none⟩) s.af.length cap)(hk:k<s.af.length)(hj:j<5)(u:Value)(y:At)(hy:fW y=(fW (s.af[k]'hk)).set j u):Goes (aI p {s with af:=s.af.set k y} m g) w F (w.setCell ⟨g1,off+k*5+j,none⟩ u):=by
 rw[oQ]at az;refine Goes.eq (Goes.frame az (A':=mz m.av (s.af.set k y)) fun G hG _=> ?_) ?_
 ·unfold mz at hG⊢;rw[yy]at hG⊢;rw[List.length_set,Nat.add_assoc];have:=cu hG (k*5+j) u (by omega);rw[j4 ly s.af k j hk hj u y hy]at this;exact this
 ·rw[oQ];rfl
theorem at_at(hm:MF w p s m g)(hn:0<s.af.length): ∃g1 off cap,m.av= .slice (some ⟨g1,off,none⟩) s.af.length cap∧g1<w.heap.size∧(∃G,(mz (.slice (some ⟨g1,off,none⟩) s.af.length cap) s.af).holds w G)∧w.cell? ⟨p,7,none⟩=some (.slice (some ⟨g1,off,none⟩) s.af.length cap):=by obtain⟨G,hG⟩:=hm.at';obtain⟨ao,cap,hv,_,bI⟩:=bO hG;obtain⟨g1,off,rfl⟩:=bI hn;have c7:w.cell? ⟨p,7,none⟩=some m.av:=hm.cell 7;rw[hv]at hG c7;exact⟨g1,off,cap,hv,(dK hG).1,⟨G,hG⟩,c7⟩
def gF(c t:Int)(k:Nat)(l:List At):List At:=(l.take k).map (fun a=>if a.conn==c then{a with eV:=t}else a)++l.drop k
theorem uP(c t:Int)(k:Nat)(l:List At):(gF c t k l).length=l.length:=by unfold gF;simp;omega
theorem Dj(hk:k<l.length)(jU:k<(gF c t k l).length):(gF c t k l)[k]'jU=l[k]'hk:=by rw[List.getElem_eq_iff];unfold gF;rw[List.getElem?_append_right (by simp;omega)];simp[Nat.min_eq_left (Nat.le_of_lt hk),hk]
theorem xV(hk:k<l.length):gF c t (k+1) l=(gF c t k l).set k (if(l[k]'hk).conn==c then{l[k]'hk with eV:=t}else l[k]'hk):=by
 unfold gF;have hl:((l.take k).map (fun a=>if a.conn==c then{a with eV:=t}else a)).length=k:=by simp;omega
 rw[List.set_append_right _ _ (by omega),hl,Nat.sub_self,fp hk,aH,List.append_assoc];congr 1;rw[List.drop_eq_getElem_cons hk];rfl
theorem Hn(hk:k<l.length)(h:((l[k]'hk).conn==c)=false):gF c t (k+1) l=gF c t k l:=by rw[xV hk,h];have h2:=Dj (c:=c) (t:=t) hk (by rw[uP];exact hk);simp only[Bool.false_eq_true,if_false];rw[<-h2,List.set_getElem_self]
theorem Ll(c t:Int)(l:List At):gF c t l.length l=l.map (fun a=>if a.conn==c then{a with eV:=t}else a):=by unfold gF;simp
set_option linter.unusedSimpArgs false in
theorem Co(p:Nat)(c:Int)(bE bz:Int)(bp bh:Bs)(hx:Bd.bJ ⟨eU,bE,bz,bp,bh⟩)(s:St)(hv:Fine 16775000 s)(w:World)(F:Ft)(hm:(aU p s).holds w F):Calls prog 146 #[.pointer (some ⟨p,0,none⟩), .int .i64 c, .agg #[.string ⟨#[98,101,97,116]⟩, .int .i64 bE, .int .i64 bz, .string ⟨bp.toArray⟩, .string ⟨bh.toArray⟩]] w (fZ p (s.message c ⟨eU,bE,bz,bp,bh⟩) w F):=by
 have hl:=hv.lens;have mX:0<=bE∧bE<=999999:=hx.id;have GS:bp.length<=64:=hx.ten;have Wi:bh.length<=64:=hx.txt;obtain⟨m,g,w0,fi,BW,dc,XY,rJ,HB,pB,HQ,HK,WS,wK,RX,nt,HO,HR,HM,RZ,ng,vJ,jY⟩:=sN ⟨#[98,101,97,116]⟩ bz bp bh mX hl (by omega) hm;have HV:=hide hv;clear hm hv hx;obtain⟨b0,b1,b2,b3,b4⟩:=HB.out w0 (ah _ _);go_enter func146,ntmps146;go_wp2_with fail;rw[<-vJ.out];refine(pB.out _).mono ?_;rintro e w1⟨rfl,hB1⟩;obtain⟨d0,d1,d2,d3,d4⟩:=HB.out _ hB1;clear b0 b1 b2 b3 b4;go_wp2_with fail;refine(HQ.out _ hB1).mono ?_;rintro e w2⟨rfl,bN⟩;have hB2:=bj hB1 bN;obtain⟨b0,b1,b2,b3,b4⟩:=HB.out _ hB2;clear d0 d1 d2 d3 d4 bN hB1 HQ pB vJ;have Ae: ¬9223372036854775807<4+fi.length:=by omega
 have oJ: ¬9223372036854775807<5+fi.length:=by omega
 generalize jV (s.reqs.findIdx? (·.id==bE))=ix at*;have Sg:=HV.out.bd.now;have D2:=HV.out.bd.c.le;have gS:IntKind.i64.wrap (s.now+s.c.le)=s.now+s.c.le:=by rw[IntKind.wrap_i64];omega
 have BP:=HM.out.below hB2;have h7: ∃ao cap,w2.cell? ⟨p,7,none⟩=some (.slice ao s.af.length cap):=by obtain⟨G,hG⟩:=BP.at';obtain⟨ao,cap,hv,_,_⟩:=bO hG;have c7:w2.cell? ⟨p,7,none⟩=some m.av:=BP.cell 7;rw[hv]at c7;exact⟨ao,cap,c7⟩
 obtain⟨ao0,zV,c7⟩:=h7;have iP:Hid (Goes (aI p {s with af:=gF c (s.now+s.c.le) 0 s.af} m g) w0 F w2):=nt.out _ hB2;clear BP;go_wp2;go_loopw [105] (fun i wr=> ∃k:Nat,k<=s.af.length∧i= .int .i64 k∧Hid (Goes (aI p {s with af:=gF c (s.now+s.c.le) k s.af} m g) w0 F wr)) (fun i _=>s.af.length-(intOf i).toNat)
 case atStart=>exact⟨0,aJ _,rfl,iP⟩
 case round=>
  obtain⟨k,hk,rfl,HI⟩:=hrel;clear c7;by_cases ay:k<s.af.length
  ·obtain⟨F3,iX,_,_⟩:=HI.out;have od:k<(gF c (s.now+s.c.le) k s.af).length:=by rw[uP];exact ay
   have hmr:=bR (s:={s with af:=gF c (s.now+s.c.le) k s.af}) HR.out iX;obtain⟨g1,off,cap,yy,rF,⟨G,hG⟩,c7⟩:=at_at hmr (show 0<(gF c (s.now+s.c.le) k s.af).length by omega);obtain⟨_,_,e2,_,e4⟩:=dZ hG od;have ef:=bV hG (off+k*5+4);have e5:wr.cell? ⟨p,5,none⟩=some (.int .i64 s.now):=hmr.cell 5;have e0:wr.cell? ⟨p,0,none⟩=some (.int .i64 s.c.le):=hmr.cell 0;have W8:wr.cell? ⟨p,7,none⟩=some (.slice (some ⟨g1,off,none⟩) s.af.length cap):=by rw[c7];show some (Value.slice _ (gF c (s.now+s.c.le) k s.af).length _)=_;rw[uP]
   have rD:=Dj (c:=c) (t:=s.now+s.c.le) ay od;simp only[rD]at e2 e4;have Lc:=hide (at_set iX yy od (j:=4) (by omega) (.int .i64 (s.now+s.c.le)) {s.af[k]'ay with eV:=s.now+s.c.le} (by show fW _=(fW ((gF c (s.now+s.c.le) k s.af)[k]'od)).set 4 _;rw[rD];rfl));have HO3:=hide iX;have Sc:(0:Int)<=((k:Nat):Int):=by omega
   have BO:((k:Nat):Int)<((s.af.length:Nat):Int):=by omega
   clear iX hmr yy hG c7 rD;cases hq:((s.af[k]'ay).conn==c)
   ·have ig:Hid (Goes (aI p {s with af:=gF c (s.now+s.c.le) (k+1) s.af} m g) w0 F wr):=by show Goes _ _ _ _;rw[Hn ay hq];exact HI.out
    clear HI Lc;go_wp2;go_roundw
    case rel=>exact⟨k+1,by omega,by go_num,ig⟩
    case measure=>simp[intOf];omega
   ·have ig:Hid (Goes (aI p {s with af:=gF c (s.now+s.c.le) (k+1) s.af} m g) w0 F (wr.setCell ⟨g1,off+k*5+4,none⟩ (.int .i64 (s.now+s.c.le)))):=by
     show Goes _ _ _ _;rw[xV ay,hq,if_pos rfl];exact HI.out.trans fun F' dR=>by rw[bF dR HO3.out];exact Lc.out
    clear HI Lc HO3;go_wp2_with fail;refine wp_region_noPanic ?_;refine qC (n:=17) (S:=fun w'=>w'.cell? ⟨p,7,none⟩=some (.slice (some ⟨g1,off,none⟩) s.af.length cap)∧w'.cell? ⟨p,5,none⟩=some (.int .i64 s.now)∧w'.cell? ⟨p,0,none⟩=some (.int .i64 s.c.le)) (by kernel_rfl) ?_;have dX:wr.drew.cell? ⟨p,7,none⟩=some (.slice (some ⟨g1,off,none⟩) s.af.length cap)∧wr.drew.cell? ⟨p,5,none⟩=some (.int .i64 s.now)∧wr.drew.cell? ⟨p,0,none⟩=some (.int .i64 s.c.le):=⟨W8,e5,e0⟩;refine gX (i:=0) rfl dX ?_
    try simp only[Act.put,sT,s0,s1]
    refine gX (i:=1) rfl dX ?_
    try simp only[Act.put,sT,s0,s1]
    refine gX (i:=2) rfl dX ?_
    try simp only[Act.put,sT,s0,s1]
    refine gX (i:=3) rfl dX ?_
    try simp only[Act.put,sT,s0,s1]
    refine gX (i:=4) rfl dX ?_
    try simp only[Act.put,sT,s0,s1]
    refine gX (i:=5) rfl dX ?_
    try simp only[Act.put,sT,s0,s1]
    refine gX (i:=6) rfl dX ?_
    try simp only[Act.put,sT,s0,s1]
    refine gX (i:=7) rfl dX ?_
    try simp only[Act.put,sT,s0,s1]
    refine gX (i:=8) rfl dX ?_
    try simp only[Act.put,sT,s0,s1]
    refine gX (i:=9) rfl dX ?_
    try simp only[Act.put,sT,s0,s1]
    refine gX (i:=10) rfl dX ?_
    try simp only[Act.put,sT,s0,s1]
    refine gX (i:=11) rfl dX ?_
    try simp only[Act.put,sT,s0,s1]
    refine gX (i:=12) rfl dX ?_
    try simp only[Act.put,sT,s0,s1]
    refine gX (i:=13) rfl dX ?_
    try simp only[Act.put,sT,s0,s1]
    refine gX (i:=14) rfl dX ?_
    try simp only[Act.put,sT,s0,s1]
    refine gX (i:=15) rfl dX ?_
    try simp only[Act.put,sT,s0,s1]
    refine gX (i:=16) rfl dX ?_
    try simp only[Act.put,sT,s0,s1]
    refine iu (i:=17) (by kernel_rfl) rfl ?_;intro K hK;go_simp;refine hK.out _ _ (Or.inl rfl) ?_;refine qB (by kernel_rfl) (NoPanic.normal ?_) _;clear hK K dX;go_wp2;go_roundw
    case rel=>exact⟨k+1,by omega,by go_num,hide (Goes.drewN ig.out _)⟩
    case measure=>simp[intOf];omega
  ·obtain rfl:k=s.af.length:=by omega
   have HX:Hid (fZ p (s.message c ⟨eU,bE,bz,bp,bh⟩) w F (.returned (.tuple #[])) wr):=by refine rJ.out _ _ _ ⟨rfl, ?_⟩;rw[xa,<-Ll];exact cI (s:={s with af:=gF c (s.now+s.c.le) s.af.length s.af}) HR.out HI.out
   go_wp2;go_end0;exact HX.out
variable{s:St}{c id n:Int}
theorem pA(s:St)(c bE bz:Int)(bp bh:Bs):s.message c ⟨kFail,bE,bz,bp,bh⟩=match s.mine c bE bz with
  |none=>s
  |some i=>(s.aS i).again bE true:=by
 unfold St.message;dsimp only;rw[if_neg (by decide),if_neg (by decide),if_neg (by decide),if_neg (by decide),if_neg (by decide),if_pos rfl];cases s.mine c bE bz<;>rfl
theorem pz(s:St)(c bE bz:Int)(bp bh:Bs):s.message c ⟨cH,bE,bz,bp,bh⟩=match s.mine c bE bz with
  |none=>s
  |some i=>match s.req bE with|none=>s|some r=>((s.say r.conn ([118,97,108,32]++cJ bE++ [32]++bh)).aS i).shut bE:=by
 unfold St.message;dsimp only;rw[if_neg (by decide),if_neg (by decide),if_neg (by decide),if_neg (by decide),if_pos rfl];cases s.mine c bE bz with
 |none=>rfl
 |some i=>dsimp only;cases s.req bE<;>rfl
theorem qV(h:s.af.findIdx? (fun a=>a.id==id &&a.n==n)=none):s.mine c id n=none:=by unfold St.mine St.xU;rw[h]
theorem KV(hv:Inv s){i:Nat}(h:s.af.findIdx? (fun a=>a.id==id &&a.n==n)=some i): ∃hi:i<s.af.length,id∈s.ks.map (·.1)∧s.mine c id n=if(s.af[i]'hi).conn==c then some i else none:=by
 obtain⟨hi,hp,_⟩:=List.findIdx?_eq_some_iff_getElem.1 h;refine⟨hi, ?_, ?_⟩
 ·have h1:=hv.bS (s.af[i]'hi) (aY hi);have h2:(s.af[i]'hi).id=id:=by simp at hp;exact hp.1
  rw[h2]at h1;exact h1
 ·unfold St.mine St.xU;rw[h];dsimp only;rw[a7 hi]
theorem DV{N:Nat}(h:Fine N s)(i:Nat):Fine N (s.aS i):=⟨St.br h.inv i,h.bd.aS i,aw (St.jT i) h.sz⟩
set_option linter.unusedSimpArgs false in
theorem Cq(p:Nat)(c:Int)(bE bz:Int)(bp bh:Bs)(hx:Bd.bJ ⟨kFail,bE,bz,bp,bh⟩)(s:St)(hv:Fine 16775000 s)(w:World)(F:Ft)(hm:(aU p s).holds w F):Calls prog 146 #[.pointer (some ⟨p,0,none⟩), .int .i64 c, .agg #[.string ⟨#[102,97,105,108]⟩, .int .i64 bE, .int .i64 bz, .string ⟨bp.toArray⟩, .string ⟨bh.toArray⟩]] w (fZ p (s.message c ⟨kFail,bE,bz,bp,bh⟩) w F):=by
 have hl:=hv.lens;have mX:0<=bE∧bE<=999999:=hx.id;have GS:bp.length<=64:=hx.ten;have Wi:bh.length<=64:=hx.txt;obtain⟨m,g,w0,fi,BW,dc,XY,rJ,HB,pB,HQ,HK,WS,wK,RX,nt,HO,HR,HM,RZ,ng,vJ,jY⟩:=sN ⟨#[102,97,105,108]⟩ bz bp bh mX hl (by omega) hm;have HV:=hide hv;clear hm hv hx;obtain⟨b0,b1,b2,b3,b4⟩:=HB.out w0 (ah _ _);go_enter func146,ntmps146;go_wp2_with fail;rw[<-vJ.out];refine(pB.out _).mono ?_;rintro e w1⟨rfl,hB1⟩;obtain⟨d0,d1,d2,d3,d4⟩:=HB.out _ hB1;clear b0 b1 b2 b3 b4;go_wp2_with fail;refine(HQ.out _ hB1).mono ?_;rintro e w2⟨rfl,bN⟩;have hB2:=bj hB1 bN;obtain⟨b0,b1,b2,b3,b4⟩:=HB.out _ hB2;clear d0 d1 d2 d3 d4 bN hB1 HQ pB vJ;have Ae: ¬9223372036854775807<4+fi.length:=by omega
 have oJ: ¬9223372036854775807<5+fi.length:=by omega
 generalize jV (s.reqs.findIdx? (·.id==bE))=ix at*;have N5:Hid (Calls prog 188 #[.pointer (some ⟨p,0,none⟩), .int .i64 bE, .int .i64 bz] w2 fun e w'=>e= .returned (.int .i64 (jV (s.af.findIdx? (fun a=>a.id==bE &&a.n==bz))))∧Below w2.heap.size w2 w'):=J3 p bE bz s m g w2 (HM.out.below hB2) (by omega);have jr:Hid (∀w',Below w0.heap.size w0 w'->s.mine c bE bz=none->fZ p (s.message c ⟨kFail,bE,bz,bp,bh⟩) w F (.returned (.tuple #[])) w'):=fun w' hb h=>rJ.out _ _ _ ⟨rfl,by rw[pA,h];exact wK.out _ hb⟩;go_wp2_with fail;refine N5.out.mono ?_;rintro e w3⟨rfl,mh⟩;have iH:=bj hB2 mh;obtain⟨d0,d1,d2,d3,d4⟩:=HB.out _ iH;clear b0 b1 b2 b3 b4 hB2 mh N5;rcases vz (s.af.findIdx? (fun a=>a.id==bE &&a.n==bz))with ju|⟨i,ju⟩
 ·have HX:=hide (jr.out w3 iH (qV ju));rw[ju];clear ju;go_wp2;go_end0;exact HX.out
 ·obtain⟨dM,hid,nD⟩:=KV HV.out.inv (c:=c) ju;rw[ju];obtain⟨g1,off,cap,yy,rF,⟨G,hG⟩,c7⟩:=at_at (HM.out.below iH) (by omega);obtain⟨_,_,e2,_,_⟩:=dZ hG dM;have AH:=hide hid;have Sc:(0:Int)<=((i:Nat):Int):=by omega
  have BO:((i:Nat):Int)<((s.af.length:Nat):Int):=by omega
  have Ec:jV (some i)=((i:Nat):Int):=rfl;rw[Ec];have acs:decide ((0:Int)<=((i:Nat):Int))=true:=by simp
  clear ju hid hG yy Ec;generalize(s.af[i]'dM)=a at*;cases hq:(a.conn==c)
  ·rw[hq]at nD;have HX:=hide (jr.out w3 iH nD);clear nD;go_wp2;go_end0;exact HX.out
  ·rw[hq]at nD;have HMI:=hide nD;have jq:Hid (Calls prog 104 #[.pointer (some ⟨p,0,none⟩), .int .i64 i] w3 (fZ p (s.aS i) w0 F)):=cW (wK.out w3 iH) fun F1 h1=>hE p i s HV.out.inv w3 F1 h1 dM (by omega) (by omega) (by omega);clear nD;go_wp2_with fail;refine jq.out.mono ?_;rintro e w4⟨rfl,kI⟩;have R3:=hide kI;obtain⟨y1,y4⟩:=RX.out _ _ kI;clear kI;go_wp2_with fail;have oh:Calls prog 105 #[.pointer (some ⟨p,0,none⟩), .int .i64 bE, .bool true] w4 (fZ p (s.message c ⟨kFail,bE,bz,bp,bh⟩) w0 F):=by
    rw[pA,HMI.out];exact cW R3.out fun F1 h1=>kZ p bE true _ (xp (DV HV.out i) (by omega)) (by rw[(St.cG i).1];exact AH.out) w4 F1 h1
   refine oh.mono ?_;intro e w5 hu;have HX:=hide (rJ.out _ _ _ hu);obtain⟨rfl,_⟩:=hu;go_wp2;go_end0;exact HX.out
theorem Vn(a b c d:Bs):((⟨a.toArray⟩:ByteArray)++⟨b.toArray⟩++⟨c.toArray⟩++⟨d.toArray⟩)=⟨(a++b++c++d).toArray⟩:=by apply ByteArray.ext;simp
set_option linter.unusedSimpArgs false in
theorem Cp(p:Nat)(c:Int)(bE bz:Int)(bp bh:Bs)(hx:Bd.bJ ⟨cH,bE,bz,bp,bh⟩)(s:St)(hv:Fine 16775000 s)(w:World)(F:Ft)(hm:(aU p s).holds w F):Calls prog 146 #[.pointer (some ⟨p,0,none⟩), .int .i64 c, .agg #[.string ⟨#[100,111,110,101]⟩, .int .i64 bE, .int .i64 bz, .string ⟨bp.toArray⟩, .string ⟨bh.toArray⟩]] w (fZ p (s.message c ⟨cH,bE,bz,bp,bh⟩) w F):=by
 have hl:=hv.lens;have mX:0<=bE∧bE<=999999:=hx.id;have GS:bp.length<=64:=hx.ten;have Wi:bh.length<=64:=hx.txt;obtain⟨m,g,w0,fi,BW,dc,XY,rJ,HB,pB,HQ,HK,WS,wK,RX,nt,HO,HR,HM,RZ,ng,vJ,jY⟩:=sN ⟨#[100,111,110,101]⟩ bz bp bh mX hl (by omega) hm;have HV:=hide hv;clear hm hv hx;obtain⟨b0,b1,b2,b3,b4⟩:=HB.out w0 (ah _ _);go_enter func146,ntmps146;go_wp2_with fail;rw[<-vJ.out];refine(pB.out _).mono ?_;rintro e w1⟨rfl,hB1⟩;obtain⟨d0,d1,d2,d3,d4⟩:=HB.out _ hB1;clear b0 b1 b2 b3 b4;go_wp2_with fail;refine(HQ.out _ hB1).mono ?_;rintro e w2⟨rfl,bN⟩;have hB2:=bj hB1 bN;obtain⟨b0,b1,b2,b3,b4⟩:=HB.out _ hB2;clear d0 d1 d2 d3 d4 bN hB1 HQ pB vJ;have Ae: ¬9223372036854775807<4+fi.length:=by omega
 have oJ: ¬9223372036854775807<5+fi.length:=by omega
 have N5:Hid (Calls prog 188 #[.pointer (some ⟨p,0,none⟩), .int .i64 bE, .int .i64 bz] w2 fun e w'=>e= .returned (.int .i64 (jV (s.af.findIdx? (fun a=>a.id==bE &&a.n==bz))))∧Below w2.heap.size w2 w'):=J3 p bE bz s m g w2 (HM.out.below hB2) (by omega);have jr:Hid (∀w',Below w0.heap.size w0 w'->s.mine c bE bz=none->fZ p (s.message c ⟨cH,bE,bz,bp,bh⟩) w F (.returned (.tuple #[])) w'):=fun w' hb h=>rJ.out _ _ _ ⟨rfl,by rw[pz,h];exact wK.out _ hb⟩;obtain⟨ix,XN⟩: ∃ix,ix=jV (s.reqs.findIdx? (·.id==bE)):=⟨_,rfl⟩;rw[<-XN];have rz:=hide XN;clear XN;go_wp2_with fail;refine N5.out.mono ?_;rintro e w3⟨rfl,mh⟩;have iH:=bj hB2 mh;obtain⟨d0,d1,d2,d3,d4⟩:=HB.out _ iH;clear b0 b1 b2 b3 b4 hB2 mh N5;rcases vz (s.af.findIdx? (fun a=>a.id==bE &&a.n==bz))with ju|⟨i,ju⟩
 ·have HX:=hide (jr.out w3 iH (qV ju));rw[ju];clear ju;go_wp2;go_end0;exact HX.out
 ·obtain⟨dM,hid,nD⟩:=KV HV.out.inv (c:=c) ju;rw[ju];obtain⟨g1,off,cap,yy,rF,⟨G,hG⟩,c7⟩:=at_at (HM.out.below iH) (by omega);obtain⟨_,_,e2,_,_⟩:=dZ hG dM;have AH:=hide hid;have Sc:(0:Int)<=((i:Nat):Int):=by omega
  have BO:((i:Nat):Int)<((s.af.length:Nat):Int):=by omega
  have Ec:jV (some i)=((i:Nat):Int):=rfl;rw[Ec];have acs:decide ((0:Int)<=((i:Nat):Int))=true:=by simp
  clear ju hid hG yy Ec;generalize(s.af[i]'dM)=a at*;cases hq:(a.conn==c)
  ·rw[hq]at nD;have HX:=hide (jr.out w3 iH nD);clear nD;go_wp2;go_end0;exact HX.out
  ·rw[hq]at nD;have HMI:=hide nD;clear nD;obtain⟨j,hj⟩:=oM AH.out;obtain⟨eP,u7,_⟩:=Q5 hj;have acD:ix=((j:Nat):Int):=by rw[rz.out,hj];rfl
   subst acD;have rA:=hide u7;obtain⟨g2,fl,b9,zJ,ld,⟨G2,pw⟩,c6⟩:=FK (HM.out.below iH) (by omega);obtain⟨_,k1,_,_,_,_,_⟩:=fH pw eP;have hj0:(0:Int)<=((j:Nat):Int):=by omega
   have TU:((j:Nat):Int)<((s.reqs.length:Nat):Int):=by omega
   have RV:=hide iH;have HJL:=hide eP;have VA:Hid (∀(nk:Value) (t:Bs) (w':World) (F':Ft),(aI p (s.say (s.reqs[j]'eP).conn t) {m with ov:=nk} g).holds w' F'->w'.cell? ⟨p,6,none⟩=some (.slice (some ⟨g2,fl,none⟩) s.reqs.length b9)∧w'.cell? ⟨g2,fl+j*7+1,none⟩=some (.int .i64 (s.reqs[j]'eP).conn)):=fun nk t w' F' h=>by have BP:=bR (s:=s.say (s.reqs[j]'eP).conn t) HR.out h;obtain⟨Gx,hGx⟩:=BP.rq;have X4:({m with ov:=nk}:MV).rv= .slice (some ⟨g2,fl,none⟩) s.reqs.length b9:=zJ;rw[X4]at hGx;exact⟨(BP.cell 6).trans ((HM.out.cell 6).symm.trans (((iH.cell (p:=⟨p,6,none⟩) dc).symm.trans c6))),(fH (l:=s.reqs) hGx eP).2.1⟩
   have gq:Hid (∀w',Below w0.heap.size w0 w'->Calls prog 102 #[.pointer (some ⟨p,0,none⟩), .int .i64 (s.reqs[j]'eP).conn, .string ((⟨#[118,97,108,32]⟩:ByteArray)++⟨fi.toArray⟩++⟨#[32]⟩++⟨bh.toArray⟩)] w' fun e dV=>e= .returned (.tuple #[])∧Goes (aU p (s.say (s.reqs[j]'eP).conn ([118,97,108,32]++fi++ [32]++bh))) w0 F dV∧dV.cell? ⟨p,6,none⟩=some (.slice (some ⟨g2,fl,none⟩) s.reqs.length b9)∧dV.cell? ⟨g2,fl+j*7+1,none⟩=some (.int .i64 (s.reqs[j]'eP).conn)∧dV.cell? ⟨w.heap.size,1,none⟩=some (.int .i64 bE)∧dV.cell? ⟨w.heap.size,4,none⟩=some (.string ⟨bh.toArray⟩)):=fun w' hb=>by rw[Vn [118,97,108,32] fi [32] bh];refine(lW p (s.reqs[j]'eP).conn _ s m g w' F (au HO.out hb) (by omega) (by simp;omega)).mono ?_;rintro e dV⟨rfl,nk,hg⟩;obtain⟨F2,eX⟩:=hg.facts;obtain⟨q1,q2⟩:=VA.out nk _ dV F2 eX;have hG:Goes (aU p (s.say (s.reqs[j]'eP).conn ([118,97,108,32]++fi++ [32]++bh))) w0 F dV:=cI (s:=s.say (s.reqs[j]'eP).conn ([118,97,108,32]++fi++ [32]++bh)) (m:={m with ov:=nk}) HR.out ((nt.out w' hb).trans fun F' dR=>by rw[bF dR (au HO.out hb)];exact hg);obtain⟨z1,z4⟩:=RX.out _ _ hG;exact⟨rfl,hG,q1,q2,z1,z4⟩
   have NX: ¬9223372036854775807<4+fi.length+1:=by omega
   have hl4: ¬9223372036854775807<4+fi.length+1+bh.length:=by omega
   clear pw zJ u7 hj VA iH;generalize(s.reqs[j]'eP)=r at*;go_wp2_with fail;go_region_held3 (fun w'=>w'.cell? ⟨p,6,none⟩=some (.slice (some ⟨g2,fl,none⟩) s.reqs.length b9)∧w'.cell? ⟨g2,fl+j*7+1,none⟩=some (.int .i64 r.conn)∧w'.cell? ⟨w.heap.size,4,none⟩=some (.string ⟨bh.toArray⟩)) (go_keep)
    (first
     |(go_at_call 102;refine(gq.out _ (by first|exact RV.out.drew|assumption)).mono ?_;rintro e w6⟨rfl,iJ,s7,s8,s9,s10⟩))
   all_goals
    have sf:=hide iJ;have jq:Hid (Calls prog 104 #[.pointer (some ⟨p,0,none⟩), .int .i64 i] w6 (fZ p ((s.say r.conn ([118,97,108,32]++fi++ [32]++bh)).aS i) w0 F)):=cW sf.out fun F1 h1=>hE p i _ (St.bM HV.out.inv _ _) w6 F1 h1 dM (by show s.af.length<=_;omega) (by show s.aq.length<=_;omega) (by show(s.out++ [_]).length<=_;simp;omega);clear iJ s7 s8 s9 s10;go_wp2_with fail;refine jq.out.mono ?_;rintro e w7⟨rfl,u6⟩;have Hg:=hide u6;obtain⟨y1,y4⟩:=RX.out _ _ u6;clear u6;go_wp2_with fail;have oh:Calls prog 112 #[.pointer (some ⟨p,0,none⟩), .int .i64 bE] w7 (fZ p (s.message c ⟨cH,bE,bz,bp,bh⟩) w0 F):=by rw[pz,HMI.out,rA.out,jY.out];exact cW Hg.out fun F1 h1=>jh p bE _ (xp (DV (DW HV.out _ _) i) (by omega)) (by rw[(St.cG i).1];exact AH.out) w7 F1 h1
    refine oh.mono ?_;intro e w8 hu;have HX:=hide (rJ.out _ _ _ hu);obtain⟨rfl,_⟩:=hu;go_wp2;go_end0;exact HX.out
theorem vu(s:St)(c bE bz:Int)(bp bh:Bs):s.message c ⟨dp,bE,bz,bp,bh⟩=(({s.conn c with aq:=aK (fun x=>x.n==c) (fun x=>{x with drains:=true}) (s.conn c).aq}:St).idle c).fJ c:=by unfold St.message;dsimp only;rw[if_neg (by decide),if_neg (by decide),if_neg (by decide),if_neg (by decide),if_neg (by decide),if_neg (by decide),if_pos rfl]
theorem OT{p:Nat}{s:St}{m:MV}{g:List (Ln×Value)}{w:World}{F:Ft}{g1 off cap k j:Nat}(az:(aI p s m g).holds w F)(Ic:m.cv= .slice (some ⟨g1,off,none⟩) s.aq.length cap)(hk:k<s.aq.length)(hj:j<4)(u:Value)(y:Cn)(hy:zX y=(zX (s.aq[k]'hk)).set j u):Goes (aI p {s with aq:=s.aq.set k y} m g) w F (w.setCell ⟨g1,off+k*4+j,none⟩ u):=by
 rw[kV]at az;refine Goes.eq (Goes.frame az (A':=lz m.cv (s.aq.set k y)) fun G hG _=> ?_) ?_
 ·unfold lz at hG⊢;rw[Ic]at hG⊢;rw[List.length_set,Nat.add_assoc];have:=cu hG (k*4+j) u (by omega);rw[j4 yg s.aq k j hk hj u y hy]at this;exact this
 ·rw[kV];rfl
theorem fc(s:St)(c:Int):(s.conn c).ring=s.ring∧(s.conn c).wait=s.wait∧(s.conn c).af=s.af∧(s.conn c).reqs=s.reqs∧(s.conn c).out=s.out∧(s.conn c).now=s.now∧(s.conn c).c=s.c∧(s.conn c).aq.length<=s.aq.length+1:=by
 unfold St.conn;split
 ·exact⟨rfl,rfl,rfl,rfl,rfl,rfl,rfl,by omega⟩
 ·exact⟨rfl,rfl,rfl,rfl,rfl,rfl,rfl,by simp⟩
theorem xg(p:Nat)(c:Int)(s:St)(hv:(s.aq.map (·.n)).Nodup)(w:World)(F:Ft)(hm:(aU p s).holds w F)(hl:s.af.length<=16777216)(oJ:s.aq.length<=16777216)(NX:s.out.length<=33554432):Calls prog 147 #[.pointer (some ⟨p,0,none⟩), .int .i64 c] w (fZ p (s.fJ c) w F):=by obtain⟨m,g,hr,az⟩:=bD hm;refine(Dp p c s hv m g w F hr az hl oJ NX).mono ?_;rintro e w'⟨rfl,nk,hg⟩;exact⟨rfl,cI (by rw[hr,(St.sx (s:=s) c).2.2.1]) hg⟩
set_option linter.unusedSimpArgs false in
theorem Ay(p:Nat)(c:Int)(bE bz:Int)(bp bh:Bs)(hx:Bd.bJ ⟨dp,bE,bz,bp,bh⟩)(s:St)(hv:Fine 16775000 s)(w:World)(F:Ft)(hm:(aU p s).holds w F):Calls prog 146 #[.pointer (some ⟨p,0,none⟩), .int .i64 c, .agg #[.string ⟨#[100,114,97,105,110]⟩, .int .i64 bE, .int .i64 bz, .string ⟨bp.toArray⟩, .string ⟨bh.toArray⟩]] w (fZ p (s.message c ⟨dp,bE,bz,bp,bh⟩) w F):=by
 have hl:=hv.lens;have mX:0<=bE∧bE<=999999:=hx.id;have GS:bp.length<=64:=hx.ten;have Wi:bh.length<=64:=hx.txt;obtain⟨m,g,w0,fi,BW,dc,XY,rJ,HB,pB,HQ,HK,WS,wK,RX,nt,HO,HR,HM,RZ,ng,vJ,jY⟩:=sN ⟨#[100,114,97,105,110]⟩ bz bp bh mX hl (by omega) hm;have HV:=hide hv;clear hm hv hx;obtain⟨b0,b1,b2,b3,b4⟩:=HB.out w0 (ah _ _);go_enter func146,ntmps146;go_wp2_with fail;rw[<-vJ.out];refine(pB.out _).mono ?_;rintro e w1⟨rfl,hB1⟩;obtain⟨d0,d1,d2,d3,d4⟩:=HB.out _ hB1;clear b0 b1 b2 b3 b4;go_wp2_with fail;refine(HQ.out _ hB1).mono ?_;rintro e w2⟨rfl,bN⟩;have hB2:=bj hB1 bN;obtain⟨b0,b1,b2,b3,b4⟩:=HB.out _ hB2;clear d0 d1 d2 d3 d4 bN hB1 HQ pB vJ;have Ae: ¬9223372036854775807<4+fi.length:=by omega
 have oJ: ¬9223372036854775807<5+fi.length:=by omega
 generalize jV (s.reqs.findIdx? (·.id==bE))=ix at*;have D3:=ny p c s m g w2 F HR.out (au HO.out hB2) (by omega);have N9:Hid (Calls prog 98 #[.pointer (some ⟨p,0,none⟩), .int .i64 c] w2 (xJ p s c m g w2 F)):=D3;clear D3;go_wp2_with fail;refine N9.out.mono ?_;rintro e w3⟨g1,off,cp,k,jU,rfl,hn,Ac,mW⟩;have NI:Hid (Goes (aI p (s.conn c) {m with cv:= .slice (some ⟨g1,off,none⟩) (s.conn c).aq.length cp} g) w0 F w3):=(nt.out _ hB2).trans fun F' dR=>by rw[bF dR (au HO.out hB2)];exact mW
 obtain⟨F3,iX,_,_⟩:=mW;obtain⟨q1,q2,q3,q4,q5,q6,q7,q8⟩:=fc s c;have KG:g.map (·.1)=(s.conn c).ring:=by rw[HR.out,q1]
 have HRC:=hide KG;have V2:=bR KG iX;obtain⟨Gc,zH⟩:=V2.cn;obtain⟨-,-,e2,-⟩:=gL zH jU;have ef:=bV zH (off+k*4+2);have abE:=hide (jd (p:=fun x:Cn=>x.n==c) (f:=fun x=>{x with drains:=true}) jU (by simpa using hn) Ac);have yE:=OT iX rfl jU (j:=2) (by omega) (.bool true) {(s.conn c).aq[k]'jU with drains:=true} rfl;have R3:Hid (Goes (aU p ({s.conn c with aq:=aK (fun x=>x.n==c) (fun x=>{x with drains:=true}) (s.conn c).aq}:St)) w0 F (w3.setCell ⟨g1,off+k*4+2,none⟩ (.bool true))):=by show Goes _ _ _ _;rw[abE.out];exact cI (s:={s.conn c with aq:=(s.conn c).aq.set k {(s.conn c).aq[k]'jU with drains:=true}}) HRC.out (NI.out.trans fun F' dR=>by rw[bF dR iX];exact yE)
 have Od:Hid (Inv ({s.conn c with aq:=aK (fun x=>x.n==c) (fun x=>{x with drains:=true}) (s.conn c).aq}:St)):=St.k5 (St.lA HV.out.inv c) (fun x=>{x with drains:=true}) (fun _=>rfl) (fun x=>x.n==c);have gS:(s.conn c).wait.length<=16777216:=by rw[q2];omega
 have Xs:(s.conn c).af.length<=16777216:=by rw[q3];omega
 have vU:(s.conn c).out.length<=16777216:=by rw[q5];omega
 have D2:(s.conn c).aq.length<=16777216:=by omega
 clear iX V2 zH hn Ac KG yE q1 q2 q3 q4 q5 q6 q7 q8 N9;go_wp2_with fail;have aaQ:Calls prog 111 #[.pointer (some ⟨p,0,none⟩), .int .i64 c] (w3.setCell ⟨g1,off+k*4+2,none⟩ (.bool true)) (fZ p (({s.conn c with aq:=aK (fun x=>x.n==c) (fun x=>{x with drains:=true}) (s.conn c).aq}:St).idle c) w0 F):=
  cW R3.out fun F1 h1=>Eo p c _ _ F1 h1 gS
 refine aaQ.mono ?_;rintro e w5⟨rfl,hg5⟩;have xf:=hide hg5;clear hg5;go_wp2_with fail;have rE:Calls prog 147 #[.pointer (some ⟨p,0,none⟩), .int .i64 c] w5 (fZ p (s.message c ⟨dp,bE,bz,bp,bh⟩) w0 F):=by rw[vu];exact cW xf.out fun F1 h1=>xg p c _ (St.iY Od.out c).cn w5 F1 h1 Xs (by show(aK _ _ _).length<=_;rw[dh];exact D2) (by show(s.conn c).out.length<=_;omega)
 refine rE.mono ?_;intro e w6 hu;have HX:=hide (rJ.out _ _ _ hu);obtain⟨rfl,_⟩:=hu;go_wp2;go_end0;exact HX.out
theorem EZ(p:Nat)(c:Int)(x:Mg)(hx:SN x)(s:St)(hv:Fine 16775000 s)(w:World)(F:Ft)(hm:(aU p s).holds w F):Calls prog 146 #[.pointer (some ⟨p,0,none⟩), .int .i64 c, .agg x.cs] w (fZ p (s.message c x) w F):=by
 obtain⟨k,id,bS,ten,txt⟩:=x;obtain⟨hk,hb⟩:=hx;dsimp only at hk;rcases hk with rfl|rfl|rfl|rfl|rfl|rfl|rfl
 ·exact E3 p c id bS ten txt hb s hv w F hm
 ·exact E1 p c id bS ten txt hb s hv w F hm
 ·exact Cr p c id bS ten txt hb s hv w F hm
 ·exact Co p c id bS ten txt hb s hv w F hm
 ·exact Cp p c id bS ten txt hb s hv w F hm
 ·exact Cq p c id bS ten txt hb s hv w F hm
 ·exact Ay p c id bS ten txt hb s hv w F hm
variable{n m:Nat}{s:St}
def fV:Prop:= ∀(s:ByteArray) (w:World),s.size<=4194304->Calls prog 55 #[.string s] w (dY s.data.toList w)
theorem E5(h:Mid n m s)(hn:n+m<=1300000):Fine 15600100 s:=⟨h.inv,h.bd.up (by omega),by have:=h.sz;omega⟩
theorem qJ(h:Mc.Good n s)(hn:n<=1300000):Fine 15600100 s:=⟨h.inv,h.bd.up (by omega),by have:=h.sz;omega⟩
theorem Qn(pM:fV)(p:Nat)(c:Int)(l:Bs)(hl:l.length<=4194304)(s:St)(hv:Mid n m s)(NZ:n+m<=1299999)(w:World)(F:Ft)(hm:(aU p s).holds w F):Calls prog 99 #[.pointer (some ⟨p,0,none⟩), .int .i64 c, .string ⟨l.toArray⟩] w (fZ p (s.line c l) w F):=by
 have hF:=E5 hv (by omega);have V1:=hF.lens;have HV:=hide hF;have C6:=hide hv;have HK:Hid (∀w',Below w.heap.size w w'->Goes (aU p s) w F w'):=fun w' hb=>(Goes.refl hm).below hb;have R4:Hid (∀w:World,Calls prog 145 #[.string ⟨l.toArray⟩] w fun e w'=>e= .returned (.tuple #[.string ⟨(dm l).toArray⟩, .bool (fF l)])∧Below w.heap.size w w'):=fun w=>Jh ⟨l.toArray⟩ w hl;have vU:(⟨(dm l).toArray⟩:ByteArray).size<=4194304:=Fa (s:=⟨l.toArray⟩) hl;have NL:Hid (∀w:World,Calls prog 55 #[.string ⟨(dm l).toArray⟩] w (dY (dm l) w)):=fun w=>pM ⟨(dm l).toArray⟩ w vU;have Zx:Hid (∀w',Below w.heap.size w w'->jz l=false->Calls prog 102 #[.pointer (some ⟨p,0,none⟩), .int .i64 c, .string ⟨#[98,97,100]⟩] w' (fZ p (s.line c l) w F)):=fun w' hb h=>by
  have e:s.line c l=s.say c [98,97,100]:=by unfold St.line;rw[if_neg (by rw[h];simp)];rfl
  rw[e];exact cW (HK.out w' hb) fun F1 h1=>mL p c [98,97,100] s w' F1 h1 (by omega) (by decide)
 have abF:Hid (∀w',Below w.heap.size w w'->jz l=true->Calls prog 146 #[.pointer (some ⟨p,0,none⟩), .int .i64 c, .agg (lR l).cs] w' (fZ p (s.message c (lR l)) w F)):=fun w' hb h=>cW (HK.out w' hb) fun F1 h1=>EZ p c (lR l) (Ct h) s (xp HV.out (by omega)) w' F1 h1
 have Hj:Hid (∀w',Goes (aU p (s.message c (lR l))) w F w'->jz l=true->Calls prog 110 #[.pointer (some ⟨p,0,none⟩)] w' (fZ p (s.line c l) w F)):=fun w' hg h=>by
  have e:s.line c l=(s.message c (lR l)).serve:=by unfold St.line;rw[if_pos h]
  rw[e];have hw:(s.wait.length:Int)<=2*((n:Int)+m):=by have:=C6.out.sz;unfold St.sz at this;omega
  have hb:=C6.out.bd.message C6.out.inv c (Ct h).bd hw;have cg:=St.sM (s:=s) c (lR l);have fS:=C6.out.sz;exact cW hg fun F1 h1=>vE p _ ⟨St.kd C6.out.inv c _,hb.up (by omega),by omega⟩ w' F1 h1
 clear hm hv hF vU;have JX:Hid (jz l=(fF l &&(dJ (dm l)).2)):=rfl;have HOF:Hid (lR l=(dJ (dm l)).1):=rfl;generalize dm l=t at*;generalize fF l=ob at*;go_enter func99,ntmps99;go_wp2_with fail;refine(R4.out _).mono ?_;rintro e w1⟨rfl,hb1⟩;go_wp2_with fail;refine(NL.out _).mono ?_;rintro e w2⟨rfl,bN⟩;rw[<-HOF.out];have hB2:Below w.heap.size w w2:=bj hb1 bN;have fS:=hB2.size;clear R4 NL HOF;generalize(dJ t).2=rb at*;generalize lR l=mg at*;obtain⟨k,id,bS,ten,txt⟩:=mg;simp only[Mg.cs]at*;cases ob
 ·go_wp2_with fail;refine(Zx.out _ (hB2.alloc fS _) (by rw[JX.out];rfl)).mono ?_;intro e w3 hu;have HX:=hide hu;obtain⟨rfl,_⟩:=hu;go_wp2;go_end0;exact HX.out
 ·cases rb
  ·go_wp2_with fail;refine(Zx.out _ (hB2.alloc fS _) (by rw[JX.out];rfl)).mono ?_;intro e w3 hu;have HX:=hide hu;obtain⟨rfl,_⟩:=hu;go_wp2;go_end0;exact HX.out
  ·have HT:Hid (jz l=true):=by show _=_;rw[JX.out];rfl
   go_wp2_with fail;refine(abF.out _ (hB2.alloc fS _) HT.out).mono ?_;rintro e w3⟨rfl,mW⟩;have NI:=hide mW;clear mW;go_wp2_with fail;refine(Hj.out _ NI.out HT.out).mono ?_;intro e w4 hu;have HX:=hide hu;obtain⟨rfl,_⟩:=hu;go_wp2;go_end0;exact HX.out
variable{s:St}{c:Int}{k n cap p:Nat}{w:World}{x:Bs}{r:List Bs}{F:Ft}
theorem M5(hk:k<s.aq.length)(hn:(s.aq[k]'hk).n=c)(hi:k<=s.aq.findIdx (·.n==c)):s.bG c=(s.aq[k]'hk).rest:=by
 have h:=jF (p:=fun x:Cn=>x.n==c) hk (by simpa using hn) hi;have h2:s.aq.find? (·.n==c)=some (s.aq[k]'hk):=by have:=List.findIdx?_eq_some_iff_getElem.1 h;obtain⟨_,hp,hq⟩:=this;rw[List.find?_eq_some_iff_getElem];exact⟨hp,k,hk,rfl,fun j hj=>by simpa using hq j hj⟩
 unfold St.bG;rw[h2]
theorem M0(s:St)(c:Int):(s.conn c).bG c=s.bG c:=by
 unfold St.conn;split
 ·rfl
 ·rename_i h;have h0:s.aq.find? (·.n==c)=none:=by
   rw[List.find?_eq_none];intro x hx hq;exact h (List.any_eq_true.2 ⟨x,hx,hq⟩)
  unfold St.bG;dsimp only;rw[List.find?_append,h0];simp
theorem Jt(h:Mc.Good n s)(c:Int):(s.bG c).length<=81:=by
 unfold St.bG;cases h1:s.aq.find? (·.n==c)with
 |none=>simp
 |some x=>exact h.rs _ (aA.2 ⟨x,dT h1,rfl⟩)
theorem Rs(ws:List (List UInt8))(k:Nat)(x:List UInt8):(strs ws).set k (.string ⟨x.toArray⟩)=strs (ws.set k x):=by unfold strs;rw[List.map_set]
theorem U4{base:Nat}{e:TypeId}{size g:Nat}{xs:List Value}(h:w.ownsRow base e size (.slice (some ⟨g,0,none⟩) n cap) n xs):n<=cap:=by
 rcases h.2 with⟨h',_⟩|⟨g',cM,cur,h',_,_,hn,_⟩
 ·cases h'
 ·cases h';exact hn
theorem Xc(c:UInt8)(l:List UInt8): ∀x∈bW c l,x.length<=l.length:=by
 intro x hx;obtain⟨_,h2,h3⟩:=tK c l;unfold bW at hx;rcases List.mem_append.1 hx with h|h
 ·exact h3 x h
 ·have:=cY.1 h;subst this;exact h2
theorem IZ(s:St)(c:Int){ls:List Bs}(hk:k<ls.length):s.lines c (ls.take (k+1))=(s.lines c (ls.take k)).line c (ls[k]'hk):=by unfold St.lines;rw[fp hk,List.foldl_append];rfl
theorem IY:(x::r).take r.length=(x::r).dropLast:=by rw[List.dropLast_eq_take];rfl
theorem Uq{x0:Bs}(h:(x0::r)[r.length]'(by simp)=x):(x0::r).getLastD []=x:=by rw[<-h,List.getLastD_eq_getLast?,List.getLast?_eq_getElem?];simp
theorem tM{sl:St}{b:Bs}{w5:World}{F5:Ft}{m:MV}{g:List (Ln×Value)}{g1 off:Nat}(hl:sl=(s.conn c).lines c (s.jb c b).dropLast)(hx:(s.jb c b).getLastD []=x)(hr:g.map (·.1)=sl.ring)(hk:k<(sl.conn c).aq.length)(hn:((sl.conn c).aq[k]'hk).n=c)(Ac:k<=(sl.conn c).aq.findIdx (·.n==c))(hg5:Goes (aI p (sl.conn c) {m with cv:= .slice (some ⟨g1,off,none⟩) (sl.conn c).aq.length cap} g) w F w5)(nZ:(aI p (sl.conn c) {m with cv:= .slice (some ⟨g1,off,none⟩) (sl.conn c).aq.length cap} g).holds w5 F5):Goes (aU p (s.feed c b)) w F (w5.setCell ⟨g1,off+k*4+1,none⟩ (.string ⟨(x.take 81).toArray⟩)):=by
 have bK:=OT nZ rfl hk (j:=1) (by omega) (.string ⟨(x.take 81).toArray⟩) {(sl.conn c).aq[k]'hk with rest:=x.take 81} rfl;have acL:=jd (p:=fun x:Cn=>x.n==c) (f:=fun y=>{y with rest:=x.take 81}) hk (by simpa using hn) Ac;have e:s.feed c b={sl.conn c with aq:=(sl.conn c).aq.set k {(sl.conn c).aq[k]'hk with rest:=x.take 81}}:=by unfold St.feed;rw[<-hl,hx];unfold St.di;rw[acL]
 rw[e];exact cI (s:={sl.conn c with aq:=(sl.conn c).aq.set k {(sl.conn c).aq[k]'hk with rest:=x.take 81}}) (by rw[hr];exact(fc sl c).1.symm) (hg5.trans fun F' dR=>by rw[bF dR nZ];exact bK)
theorem Goes.away{A:aM}{w2 w3:World}{F2:Ft}{gl:Nat}(h:A.holds w2 F2)(ho:Only F w w2)(hn: ∀k,F2 k->F k∨w.heap.size<=k)(sG:w.heap.size<=gl)(hF: ¬F2 gl)(o3:Only (fun b=>b=gl) w2 w3):A.holds w3 F2∧Goes A w F w3:=by have h3:A.holds w3 F2:=A.keep h fun q hq=>o3.block q (A.lt h q hq) (fun e=>hF (e▸hq));exact⟨h3,F2,h3,ho.trans o3 (fun k hk e=>by omega),hn⟩
theorem rk{w1:World}(h:Goes (aU p s) w F w1):Calls prog 100 #[.pointer (some ⟨p,0,none⟩)] w1 fun e w'=> ∃v,e= .returned v∧Goes (aa (iB v s.out) (aU p s.told)) w F w':=by obtain⟨F1,h1,o1,n1⟩:=h;refine(RG p s w1 F1 h1).mono ?_;rintro e w2⟨v,rfl,hg⟩;exact⟨v,rfl,Goes.trans ⟨F1,h1,o1,n1⟩ fun F' dR=>by rw[eG dR h1];exact hg⟩
theorem DK(pM:fV)(p:Nat)(c:Int)(b:ByteArray)(hb:b.size<=2097152)(s:St)(hv:Mc.Good n s)(NZ:n+(bW 10 b.data.toList).length<=1299999)(w:World)(F:Ft)(hm:(aU p s).holds w F):Calls prog 60 #[.pointer (some ⟨p,0,none⟩), .int .i64 c, .string b] w fun e w'=> ∃v,e= .returned v∧Goes (aa (iB v (s.feed c b.data.toList).out) (aU p (s.feed c b.data.toList).told)) w F w':=by
 have hrs:=Jt hv c;have aa0:=hv.conn c;have uJ:=qJ hv (by omega);have V1:=uJ.lens;have C6:=hide aa0;have jn: ∀x∈bW 10 b.data.toList,x.length<=2097152:=fun x hx=>aw (Xc 10 _ x hx) (by simpa using hb);have ie:Hid (∀w:World,Calls prog 93 #[.string b, .int .u8 10] w fun e w'=> ∃g cap,e= .returned (.slice (some ⟨g,0,none⟩) (bW 10 b.data.toList).length cap)∧w.heap.size<=g∧
   w'.ownsRow w.heap.size 9 1 (.slice (some ⟨g,0,none⟩) (bW 10 b.data.toList).length cap) (bW 10 b.data.toList).length (strs (bW 10 b.data.toList))∧Below w.heap.size w w'):=fun w=>BG b 10 w (by omega)
 have GF:Hid (∀x,(s.jb c b.data.toList).getLastD []=x->x=x):=fun _ _=>rfl;obtain⟨x0,r0,mi⟩: ∃x0 r0,bW 10 b.data.toList=x0::r0:=by
  cases h:bW 10 b.data.toList with
  |nil=>exact absurd h (BH _ _)
  |cons a b=>exact⟨a,b,rfl⟩
 have HLS:Hid (s.jb c b.data.toList=(s.bG c++x0)::r0):=by show _=_;unfold St.jb;rw[mi];rfl
 rw[mi]at jn NZ ie;have D2:r0.length<=1299998:=by simp at NZ;omega
 have hx0:x0.length<=2097152:=jn x0 (by simp);have Z9:Hid (∀x∈(s.bG c++x0)::r0,x.length<=4194304):=fun x hx=>by
  rcases List.mem_cons.1 hx with rfl|hx
  ·simp;omega
  ·exact aw (jn x (bt _ hx)) (by omega)
 obtain⟨m,g,hr,az⟩:=bD hm;have HO:=hide az;have HM:=hide hm;have HR:=hide hr;have dc:=(bR hr az).lt;clear mi jn hm az hr hv aa0 uJ GF;go_enter func60,ntmps60;go_wp2_with fail;refine(ie.out _).mono ?_;rintro e w1⟨gl,abV,rfl,sG,Mh,hb1⟩;have adD:gl<w1.heap.size:=(Mh.lt gl rfl).2;have dF:=U4 Mh;have HO1:Hid ((aI p s m g).holds w1 F):=au HO.out hb1;have RY:Hid (Calls prog 98 #[.pointer (some ⟨p,0,none⟩), .int .i64 c] w1 (xJ p s c m g w1 F)):=ny p c s m g w1 F HR.out HO1.out (by omega);have Xo: ¬F gl:=fun h=>by have:=(aU p s).lt HM.out _ h;omega
 clear ie;go_wp2_with fail;refine RY.out.mono ?_;rintro e w2⟨g1,off,cp,k,jU,rfl,hn,Ac,F2,eX,o2,n2⟩;have Pp: ¬F2 gl:=fun h=>(n2 gl h).elim Xo (by omega);have KG:g.map (·.1)=(s.conn c).ring:=by rw[HR.out,(fc s c).1]
 have BP:=bR KG eX;obtain⟨Gc,zH⟩:=BP.cn;obtain⟨-,e1,-,-⟩:=gL zH jU;rw[<-M5 jU hn Ac,M0]at e1;have hlr:=o2.row Mh (fun q hq hS=>Xo (by have e:gl=q:=Option.some.inj hq;rw[e];exact hS));have Me:w2.cell? ⟨gl,0,none⟩=some (.string ⟨x0.toArray⟩):=bL hlr (k:=0) (by simp) rfl;have fl0:=hlr.frozenAt 0;have HE:Hid ((⟨(s.bG c).toArray⟩:ByteArray)++(⟨x0.toArray⟩:ByteArray)=⟨(s.bG c++x0).toArray⟩):=aL.jC _ _;have o02:Only F w w2:=((Only.refl F w).below hb1).trans o2 (fun _ _ h=>h);have n02: ∀q,F2 q->F q∨w.heap.size<=q:=fun q h=>(n2 q h).imp id (fun h=>aw hb1.size h);have HAW:Hid (∀w3,Only (fun b=>b=gl) w2 w3->(aU p (s.conn c)).holds w3 F2∧Goes (aU p (s.conn c)) w F w3):=fun w3 o3=>Goes.away (by exact⟨_,g,(nB _ _ _ _).2 ⟨KG,eX⟩⟩) o02 n02 sG Pp o3;have HLR:=hide hlr;have abB:=hide Pp;have og:(s.bG c).toArray.size<=81:=by simpa using hrs
 have adY:=o2.size;have XQ:off+k*4+4<=off+(s.conn c).aq.length*4:=by omega
 clear RY eX BP zH Mh hn Ac o2 n2 o02 n02 hlr KG Pp Xo HO1 HO HM;go_wp2
 go_region
 rw[HE.out];have qc:=HLR.out.stored 0 (.string ⟨(s.bG c++x0).toArray⟩);rw[Rs]at qc;have ZR:Hid (((w2.setCell ⟨gl,0,none⟩ (.string ⟨(s.bG c++x0).toArray⟩)).drew).ownsRow w.heap.size 9 1 (.slice (some ⟨gl,0,none⟩) (x0::r0).length abV) (x0::r0).length (strs ((s.bG c++x0)::r0))):=qc.1.drew;have HA3:=hide (HAW.out _ (((Only.refl (fun b=>b=gl) w2).setCell ⟨gl,0,none⟩ (.string ⟨(s.bG c++x0).toArray⟩) (fun _=>rfl)).drew));have z3:(w2.setCell ⟨gl,0,none⟩ (.string ⟨(s.bG c++x0).toArray⟩)).drew.heap.size=w2.heap.size:=by simp[World.setCell]
 generalize(w2.setCell ⟨gl,0,none⟩ (.string ⟨(s.bG c++x0).toArray⟩)).drew=w3 at*;clear qc Me fl0 e1 HLR HAW HE;simp only[List.length_cons]at*;go_wp2;have ZZ:=hide NZ;go_loopw [33] (fun ip wr=> ∃k:Nat,k<=r0.length∧ip= .int .i64 k∧Hid (Goes (aU p ((s.conn c).lines c (((s.bG c++x0)::r0).take k))) w3 F2 wr)) (fun ip _=>r0.length-(intOf ip).toNat)
 case atStart=>exact⟨0,aJ _,rfl,Goes.refl HA3.out.1⟩
 case round=>
  obtain⟨k,hk,rfl,HI⟩:=hrel;have oI:Only F2 w3 wr:=by obtain⟨_,_,o,_⟩:=HI.out;exact o
  have hwi:=oI.size;have LI:=oI.row ZR.out (fun q hq e=>abB.out (by have e1:gl=q:=Option.some.inj hq;rw[e1];exact e));by_cases ay:k<r0.length
  ·have hcx:=bL LI (k:=k) (by simp;omega) (by simp);have La:Hid (Calls prog 99 #[.pointer (some ⟨p,0,none⟩), .int .i64 c, .string ⟨(((s.bG c++x0)::r0)[k]'(by simp;omega)).toArray⟩] wr (fZ p ((s.conn c).lines c (((s.bG c++x0)::r0).take (k+1))) w3 F2)):=by
    show Calls _ _ _ _ _;rw[IZ _ _ (by simp;omega)];exact cW HI.out fun F1 h1=>Qn pM p c _ (Z9.out _ (aY _)) _ (C6.out.lines c _) (by have:=ZZ.out;simp;omega) wr F1 h1
   generalize((s.bG c++x0)::r0)[k]'(by simp;omega)=x at*;clear LI HI oI;go_wp2_with fail;refine La.out.mono ?_;rintro e w4⟨rfl,kI⟩;have Vz:=hide kI;clear kI La;go_wp2;go_roundw
   case rel=>exact⟨k+1,by omega,by go_num,Vz⟩
   case measure=>simp[intOf];omega
  ·obtain rfl:k=r0.length:=by omega
   have hcx:=bL LI (k:=r0.length) (by simp) (by simp);obtain⟨x,hx⟩: ∃x,((s.bG c++x0)::r0)[r0.length]'(by simp)=x:=⟨_,rfl⟩;rw[hx]at hcx;have HX:Hid ((s.jb c b.data.toList).getLastD []=x):=by show _=_;rw[HLS.out];exact Uq hx
   have IC:x.length<=4194304:=by rw[<-hx];exact Z9.out _ (aY _)
   clear hx LI;obtain⟨sl,zK⟩: ∃sl,sl=(s.conn c).lines c (s.jb c b.data.toList).dropLast:=⟨_,rfl⟩;have X7:(s.conn c).lines c (((s.bG c++x0)::r0).take r0.length)=sl:=by rw[zK,HLS.out,IY]
   rw[X7]at HI;have hmd:Mid n (0+r0.length) sl:=by have:=C6.out.lines c (((s.bG c++x0)::r0).take r0.length);rw[X7]at this;rw[List.length_take]at this;simpa using this
   have hfl:=(E5 hmd (by have:=ZZ.out;omega)).lens;have WR:=hide zK;have HGL:Hid (Goes (aU p sl) w F wr):=HA3.out.2.trans fun F' dR=>by rw[eG dR HA3.out.1];exact HI.out
   obtain⟨FL,hFL,oL,nL⟩:=HGL.out;obtain⟨ml,gg,X3,vU⟩:=bD hFL;have HOL:Hid (Goes (aI p sl ml gg) w F wr):=⟨FL,vU,oL,nL⟩;have Z1:=hide vU;have R6:=hide X3;have RY:Hid (Calls prog 98 #[.pointer (some ⟨p,0,none⟩), .int .i64 c] wr (xJ p sl c ml gg wr FL)):=ny p c sl ml gg wr FL X3 vU (by omega);clear zK X7 HI hmd hFL oL nL X3 vU oI;have Hk:Hid ((⟨x.toArray⟩:ByteArray).extract 0 81=⟨(x.take 81).toArray⟩):=nz ⟨x.toArray⟩ 81;by_cases wP:81<x.length
   ·go_wp2_with fail;refine RY.out.mono ?_;rintro e w5⟨g2,fl,b9,k2,PJ,rfl,hn,Ac,hg5⟩;obtain⟨F5,nZ,o5,n5⟩:=hg5;have TY:=bR (by rw[R6.out];exact(fc sl c).1.symm) nZ;obtain⟨Gc,zH⟩:=TY.cn;obtain⟨-,e1,-,-⟩:=gL zH PJ;have ef:=bV zH (fl+k2*4+1);have sf:=hide (tM WR.out HX.out R6.out PJ hn Ac (HOL.out.trans fun F' dR=>by rw[bF dR Z1.out];exact⟨F5,nZ,o5,n5⟩) nZ);have HT:=hide (rk sf.out);have pK:fl+k2*4+4<=fl+(sl.conn c).aq.length*4:=by omega
    clear nZ o5 n5 TY zH hn Ac RY sf;go_wp2_with fail;rw[Hk.out];refine HT.out.mono ?_;rintro e w6⟨v,rfl,iJ⟩;have Hg:=hide iJ;clear iJ;go_wp2;go_ret;exact⟨v,rfl,Hg.out⟩
   ·have HTL:Hid (x.take 81=x):=List.take_of_length_le (by omega);go_wp2_with fail;refine RY.out.mono ?_;rintro e w5⟨g2,fl,b9,k2,PJ,rfl,hn,Ac,hg5⟩;obtain⟨F5,nZ,o5,n5⟩:=hg5;have TY:=bR (by rw[R6.out];exact(fc sl c).1.symm) nZ;obtain⟨Gc,zH⟩:=TY.cn;obtain⟨-,e1,-,-⟩:=gL zH PJ;have ef:=bV zH (fl+k2*4+1);have iJ:=tM WR.out HX.out R6.out PJ hn Ac (HOL.out.trans fun F' dR=>by rw[bF dR Z1.out];exact⟨F5,nZ,o5,n5⟩) nZ;rw[HTL.out]at iJ;have HT:=hide (rk iJ);have pK:fl+k2*4+4<=fl+(sl.conn c).aq.length*4:=by omega
    clear nZ o5 n5 TY zH hn Ac RY iJ;go_wp2_with fail;refine HT.out.mono ?_;rintro e w6⟨v,rfl,iJ⟩;have Hg:=hide iJ;clear iJ;go_wp2;go_ret;exact⟨v,rfl,Hg.out⟩
