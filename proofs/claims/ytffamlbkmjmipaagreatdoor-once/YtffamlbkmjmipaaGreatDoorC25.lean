import Derived.Test.YtffamlbkmjmipaaGreatDoorC24
set_option maxHeartbeats 8000000
set_option maxRecDepth 100000
namespace Go.Proofs.YtffamlbkmjmipaaGreatDoor
open _root_.Go.Proofs.Tryz
namespace Pj
open Go.RowKit aJ Mc bG Rel
attribute [local go_sem] ae ag
theorem tP{l:List At}(hn:(l.map key).Nodup){i:Nat}(hi:i<l.length)(u:Int):l.map (renew (key l[i]) u)=l.set i {l[i]with fx:=u}:=by
 apply List.ext_getElem?;intro k;rw[List.getElem?_map,List.getElem?_set];by_cases e:i=k
 ·subst e;rw[if_pos rfl,if_pos hi,aY hi];simp[renew]
 ·rw[if_neg e];cases hk:l[k]? with
  |none=>rfl
  |some y=>
   have cA:key y≠key l[i]:=fun e'=>by
    obtain⟨mQ,rfl⟩:=cz.1 hk;have h:=List.pairwise_iff_getElem.1 hn;rcases Nat.lt_or_gt_of_ne e with h'|h'
    ·exact absurd (by rw[List.getElem_map,List.getElem_map];exact e'.symm) (h i k (by simpa using hi) (by simpa using mQ) h')
    ·exact absurd (by rw[List.getElem_map,List.getElem_map];exact e') (h k i (by simpa using mQ) (by simpa using hi) h')
   simp[renew,cA]
theorem Ib{α:Type}(l:List α)(i:Nat)(u:α):(l.set i u).zipIdx=l.zipIdx.set i (u,i):=by
 apply List.ext_getElem?;intro k;rw[List.getElem?_zipIdx,List.getElem?_set,List.getElem?_set,List.length_zipIdx];by_cases e:i=k
 ·subst e;rw[if_pos rfl,if_pos rfl];split<;>simp
 ·rw[if_neg e,if_neg e,List.getElem?_zipIdx]
theorem QA{base x tb:Nat}{g:Gh}{cn:List (Int×Nat×Bs)}{s:St}{w:World}{F:Ft}(T:Tabs base w)(h:(stA base x tb g cn s).holds w F)(hi:Inv s)(ho:Ok s)(hz:s.sz<=16777000){a:At}(ha:a∈s.ah)(u:Int):w.cell? ⟨x,5,none⟩=some (.int .i64 s.now)∧w.cell? ⟨x,0,none⟩=some (.int .i64 s.c.le)∧w.frozen? ⟨g.ap (key a),5,none⟩=false∧w.cell? ⟨g.ap (key a),5,none⟩=some (.int .i64 a.fx)∧ ∃kk:Nat,(w.setCell ⟨g.ap (key a),5,none⟩ (.int .i64 u)).cell? ⟨g.ap (key a),6,none⟩=some (.int .i64 kk)∧ ∀nq,Calls prog 185 #[vy x, .int .i64 kk] ((w.setCell ⟨g.ap (key a),5,none⟩ (.int .i64 u)).drewN nq) fun e w'=>e= .returned (.tuple #[])∧Goes (stA base x tb g cn {s with ah:=s.ah.map (renew (key a) u)}) w F w':=by
 obtain⟨j,r1,r2,r3,hF,hh⟩:=h;have wf:=dJ r1 hi hz;unfold jA at hh;rw[bH]at hh;obtain⟨v,hv⟩:=hh;change (aa (aW x g j v) (uQ tb s.out)).holds w F at hv;obtain⟨kk,tE,rfl⟩:=List.mem_iff_getElem.1 (r1.hp.symm.subset ha);obtain⟨Gj,oh,_⟩:=aJ.left hv;have D:=wJ oh;have Gt:(j.hp.map key).Nodup:=(r1.hp.map key).nodup_iff.2 ho.key;have hzl:kk<j.hp.zipIdx.length:=by simpa using tE
 have h2:=aA hv (show _=aa (blk (g.ap (key j.hp[kk])) (.cells (mr g j.hp[kk] kk) 126 (0,0))) (aa (all (fun x:At×Nat=>fH g x.1 x.2) (j.hp.zipIdx.eraseIdx kk)) (aa (dB x j v) (aa (dh g v.lv j.hp) (aa (aa (iU v.cm j.bu) (aa (ib g v.rm j.reqs) (aa (gK g v.tm j.aQ) (aa (all gM j.bu) (aa (all (fc g j.c.re) j.reqs) (aa (all (fD g) j.aQ) (aa (dL g v.rv j.ring) (gN v.pv j.pull)))))))) (uQ tb s.out)))))by
  unfold aW hpA;rw[AL hzl];show _=aa (fH g j.hp[kk] kk) _;have:fH g j.hp.zipIdx[kk].1 j.hp.zipIdx[kk].2=fH g j.hp[kk] kk:=by simp
  rw[this]
  ac_rfl)
 obtain⟨cl,fz,_⟩:=br h2;have g2:=(Goes.refl h2).store 5 (.int .i64 u);have hlen:(j.hp.set kk {j.hp[kk]with fx:=u}).length=j.hp.length:=List.length_set ..;have Sm:(j.hp.set kk {j.hp[kk]with fx:=u}).map (fun a=>pt (g.ap (key a)))=j.hp.map fun a=>pt (g.ap (key a)):=by rw[<-tP Gt tE,aB];exact bz fun y _=>by simp only[Function.comp_def,(gi _ u y).1]
 have g3:=g2.eq (show _=aa (fA x (yY j v) g v.lv (j.hp.set kk {j.hp[kk]with fx:=u})) (aa (aa (iU v.cm j.bu) (aa (ib g v.rm j.reqs) (aa (gK g v.tm j.aQ) (aa (all gM j.bu) (aa (all (fc g j.c.re) j.reqs) (aa (all (fD g) j.aQ) (aa (dL g v.rv j.ring) (gN v.pv j.pull)))))))) (uQ tb s.out))by
  unfold fA zB dh hpA;rw[Sm,hlen,Ib,vh hzl];dsimp only;show aa (fH g {j.hp[kk]with fx:=u} kk) _=_;unfold dB
  ac_rfl)
 obtain⟨F3,mB,o3,n3⟩:=g3;have h6:(w.setCell ⟨g.ap (key j.hp[kk]),5,none⟩ (.int .i64 u)).cell? ⟨g.ap (key j.hp[kk]),6,none⟩=some (.int .i64 kk):=by obtain⟨F4,zq,_⟩:=g2;exact(br zq).1 6
 refine⟨by rw[D.1 5];show some (Value.int .i64 j.now)=_;rw[r1.now],by rw[D.1 0];show some (Value.int .i64 j.c.le)=_;rw[r1.c],fz 5,cl 5,kk,h6,fun nq=> ?_⟩;obtain⟨G4,H4,ha4,yZ,d4,e4⟩:=bI mB nq;have C6:Hp.Near (fJ g) (j.hp.set kk {j.hp[kk]with fx:=u}) (j.hp.set kk {j.hp[kk]with fx:=u}).length kk:=by rw[hlen];exact Hp.Heap.changed (iT g) (af _) r1.heap (fun k _ hk=>by rw[List.getElem?_set,if_neg (Ne.symm hk)])
 have hb:=wf.b4;refine(Ss x (yY j v) g v.lv _ kk _ G4 (by rfl) ha4 (by rw[hlen];exact tE) C6 (by rw[hlen];omega)).mono ?_;rintro e w'⟨rfl,ba,dy,uv,hg⟩;refine⟨rfl, ?_⟩;have g5:=aC o3 n3 (df (q:=nq) (aO yZ hg d4 e4));have g6:Goes (aa (jA x g {j with hp:=ba}) (uQ tb s.out)) w F w':=by
  refine g5.mono fun F' h'=> ?_;unfold jA;rw[bH];refine⟨v,aA h' ?_⟩;unfold aW fA zB;dsimp only;show _=aa (aa (blk x (.cells (yY j v) 88 (0,0))) _) _
  ac_rfl
 refine gj (j':={j with hp:=ba}) (s':={s with ah:=s.ah.map (renew (key j.hp[kk]) u)}) T hF (r1.TG (key j.hp[kk]) u ba (by rw[tP Gt tE];exact dy) uv) ⟨fun b iI=> ?_,r2.2⟩ r3 g6;have hm:=dy.subset iI;rw[<-tP Gt tE]at hm;obtain⟨y,hy,rfl⟩:=az.1 hm;rw[(gi _ u y).2.2.2];exact r2.1 y hy
variable{s:St}{w:World}{F:Ft}
theorem W4(hi:Inv s)(ho:Ok s)(f:At->At)(hf: ∀a,(f a).id=a.id∧(f a).n=a.n∧(f a).conn=a.conn):Inv {s with ah:=s.ah.map f}∧Ok {s with ah:=s.ah.map f}∧({s with ah:=s.ah.map f}:St).sz=s.sz:=by
 have hc: ∀i,({s with ah:=s.ah.map f}:St).count i=s.count i:=fun i=>by unfold St.count;dsimp only;rw[List.countP_map];exact List.countP_congr fun y _=>by simp only[Function.comp_def,(hf y).1]
 have hh: ∀c,({s with ah:=s.ah.map f}:St).held c=s.held c:=fun c=>by unfold St.held;dsimp only;rw[List.countP_map];exact List.countP_congr fun y _=>by simp only[Function.comp_def,(hf y).2.2]
 refine⟨St.qZ hi _ (fun a ha=> ?_),⟨ho.gone,fun y hy hd=> ?_, ?_,fun a ha r hr e=> ?_,fun r hr hd=> ?_⟩, ?_⟩
 ·obtain⟨b,hb,rfl⟩:=az.1 ha;rw[(hf b).1];exact hi.bF b hb
 ·rw[hh];exact ho.dr y hy hd
 ·show((s.ah.map f).map _).Nodup;rw[aB];have:s.ah.map ((fun a=>(a.id,a.n))∘f)=s.ah.map fun a=>(a.id,a.n):=bz fun y _=>by simp only[Function.comp_def,(hf y).1,(hf y).2.1]
  rw[this];exact ho.key
 ·obtain⟨b,hb,rfl⟩:=az.1 ha;rw[(hf b).2.1];exact ho.num b hb r hr (by rw[e,(hf b).1])
 ·rw[hc];exact ho.hd r hr hd
 ·unfold St.sz;simp
theorem rF{A B:aJ}{w1 w':World}(hA:A.holds w F)(hb:Below w.heap.size w w1)(hB:Goes B w1 (fun _=>False) w'):Goes (aa A B) w F w':=by
 obtain⟨F',pW,o,n⟩:=hB;have iI:Below w.heap.size w w':=fY hb ((o.toBelow (fun _ h=>h.elim) (af _)).mono hb.size);have hn: ∀k,F' k->w.heap.size<=k:=fun k hk=>(n k hk).elim False.elim (fun h=>ar hb.size h);refine⟨fun k=>F k∨F' k,⟨F,F',A.keep hA (fun k hk=>iI.block k (A.lt hA k hk)),pW,fun k hk mQ=> ?_,fun k=>Iff.rfl⟩, ?_,fun k hk=> ?_⟩
 ·have:=A.lt hA k hk;have:=hn k mQ;omega
 ·exact⟨iI.os,iI.tape,iI.output,iI.size,fun k hk _=>iI.block k hk⟩
 ·rcases hk with h|h
  ·exact .inl h
  ·exact .inr (hn k h)
theorem P8{base x tb:Nat}{g:Gh}{cn:List (Int×Nat×Bs)}(h:(stA base x tb g cn s).holds w F)(hi:Inv s)(hz:s.sz<=16777000)(c:Int): ∃(hp:List At) (ao:Option Addr) (cap:Nat),hp.Perm s.ah∧hp.length<=16777190∧x<w.heap.size∧w.cell? ⟨x,11,none⟩=some (.slice ao hp.length cap)∧ ∀w1,Below w.heap.size w w1->Calls prog 78 #[.slice ao hp.length cap, .func (.func 124) #[] #[.pointer (some ⟨w1.heap.size,0,none⟩)]] (w1.alloc (.cells #[.int .i64 c] 3)) fun e w'=> ∃v',e= .returned v'∧Below w.heap.size w w'∧Goes (aa (stA base x tb g cn s) (rowA 127 1 v' (hp.filter fun a=>a.conn==c).length ((hp.filter fun a=>a.conn==c).map fun a=>pt (g.ap (key a))))) w F w':=by
 have h0:=h;obtain⟨j,r1,r2,r3,hF,hh⟩:=h;obtain⟨G,H,hj,GI,_,_⟩:=hh;have wf:=dJ r1 hi hz;obtain⟨v,hv⟩:=id hj;have c11:w.cell? ⟨x,11,none⟩=some v.lv:=(wJ hv).1 11;have uA:x<w.heap.size:=(wJ hv).2.2;obtain⟨⟨Gl,vu⟩,mN⟩:=Ob hv;obtain⟨ao,cap,JO⟩:=aR (Goes.refl vu);rw[JO]at c11 vu;have yZ:=wf.b4;refine⟨j.hp,ao,cap,r1.hp,yZ,uA,c11,fun w1 hB=> ?_⟩;have pD:Below w.heap.size w (w1.alloc (.cells #[.int .i64 c] 3)):=hB.alloc hB.size _;refine(vO _ j.hp (fun a=>g.ap (key a)) (fun a=>a.conn==c) 124 #[.pointer (some ⟨w1.heap.size,0,none⟩)] (enters_of func124 (by kernel_rfl) rfl) _ Gl (Mr.aI vu pD) (fun wr hr y hy=> ?_) (by omega)).mono ?_
 ·obtain⟨i,BS,rfl⟩:=List.mem_iff_getElem.1 hy;have ha:=mN i BS;have aN:g.ap (key j.hp[i])<w.heap.size:=(cC.1 ha).1;have jJ:=hB.size;have LV:=pD.size;refine nE (g.ap (key j.hp[i])) w1.heap.size c j.hp[i].conn wr ?_ ?_
  ·rw[hr.cell (p:=⟨_,2,none⟩) (bD aN LV),pD.cell (p:=⟨_,2,none⟩) aN];simp only[World.cell?,ha];rfl
  ·rw[hr.cell (p:=⟨w1.heap.size,0,none⟩) (by simp)];simp only[World.cell?,heap_alloc_new];rfl
 ·rintro e w'⟨v',rfl,hg⟩;have tC:=fY pD ((gU hg).mono pD.size);exact⟨v',rfl,tC,rF h0 pD hg⟩
def kX(s:St)(K:List (Int×Int)):St:={s with ah:=K.foldl (fun l k=>l.map (renew k (s.now+s.c.le))) s.ah}
theorem Jj(s:St)(K:List (Int×Int)):(kX s K).ah=s.ah.map (fun a=>if key a∈K then{a with fx:=s.now+s.c.le}else a):=qm (s.now+s.c.le) 0 K s.ah
theorem TH(hi:Inv s)(ho:Ok s)(K:List (Int×Int)):Inv (kX s K)∧Ok (kX s K)∧(kX s K).sz=s.sz:=by have:=W4 hi ho (fun a=>if key a∈K then{a with fx:=s.now+s.c.le}else a) (fun a=>by split<;>exact⟨rfl,rfl,rfl⟩);rw[show({s with ah:=s.ah.map (fun a=>if key a∈K then{a with fx:=s.now+s.c.le}else a)}:St)=kX s K by unfold kX;rw[qm (s.now+s.c.le) 0]]at this;exact this
theorem K8(s:St)(K:List (Int×Int))(k:Int×Int):kX s (K++ [k])={kX s K with ah:=(kX s K).ah.map (renew k ((kX s K).now+(kX s K).c.le))}:=by unfold kX;rw[List.foldl_append];rfl
def zL(s:St)(c:Int):St:={s with ah:=s.ah.map (fun a=>if a.conn==c then{a with fx:=s.now+s.c.le}else a)}
theorem K7(ho:Ok s){hp:List At}(h:hp.Perm s.ah)(c:Int):kX s ((hp.filter fun a=>a.conn==c).map key)=zL s c:=by
 have e:(kX s ((hp.filter fun a=>a.conn==c).map key)).ah=(zL s c).ah:=by
  rw[Jj];refine bz fun a ha=> ?_;have:key a∈(hp.filter fun a=>a.conn==c).map key↔(a.conn==c)=true:=by
   rw[az];constructor
   ·rintro⟨b,hb,e⟩;obtain⟨bT,cZ⟩:=aL.1 hb;have:b=a:=bC (k:=fun a:At=>(a.id,a.n)) ho.key (h.subset bT) ha e;rw[<-this];exact cZ
   ·intro e;exact⟨a,aL.2 ⟨h.symm.subset ha,e⟩,rfl⟩
  by_cases e:(a.conn==c)=true
  ·rw[if_pos (this.2 e),if_pos e]
  ·rw[if_neg (fun h=>e (this.1 h)),if_neg e]
 unfold kX zL at*;dsimp only at e;rw[e]
