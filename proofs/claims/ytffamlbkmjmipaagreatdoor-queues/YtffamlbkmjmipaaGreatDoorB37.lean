import Derived.Test.YtffamlbkmjmipaaGreatDoorB35
set_option maxHeartbeats 8000000
set_option maxRecDepth 100000
namespace Go.Proofs.YtffamlbkmjmipaaGreatDoor
open _root_.Go.Proofs.Tryz
namespace Pj
open Go.RowKit aM Mc bJ Rel
attribute [local go_sem] ag ar
theorem vC{l:List At}(hn:(l.map key).Nodup){i:Nat}(hi:i<l.length)(u:Int):l.map (renew (key l[i]) u)=l.set i {l[i]with eV:=u}:=by
 apply List.ext_getElem?;intro k;rw[List.getElem?_map,List.getElem?_set];by_cases e:i=k
 ·subst e;rw[if_pos rfl,if_pos hi,a7 hi];simp[renew]
 ·rw[if_neg e];cases hk:l[k]? with
  |none=>rfl
  |some y=>
   have cC:key y≠key l[i]:=fun e'=>by
    obtain⟨jU,rfl⟩:=cK.1 hk;have h:=List.pairwise_iff_getElem.1 hn;rcases Nat.lt_or_gt_of_ne e with h'|h'
    ·exact absurd (by rw[List.getElem_map,List.getElem_map];exact e'.symm) (h i k (by simpa using hi) (by simpa using jU) h')
    ·exact absurd (by rw[List.getElem_map,List.getElem_map];exact e') (h k i (by simpa using jU) (by simpa using hi) h')
   simp[renew,cC]
theorem JR{α:Type}(l:List α)(i:Nat)(u:α):(l.set i u).zipIdx=l.zipIdx.set i (u,i):=by
 apply List.ext_getElem?;intro k;rw[List.getElem?_zipIdx,List.getElem?_set,List.getElem?_set,List.length_zipIdx];by_cases e:i=k
 ·subst e;rw[if_pos rfl,if_pos rfl];split<;>simp
 ·rw[if_neg e,if_neg e,List.getElem?_zipIdx]
theorem Q4{base x tb:Nat}{g:Gh}{cn:List (Int×Nat×Bs)}{s:St}{w:World}{F:Ft}(T:Tabs base w)(h:(stA base x tb g cn s).holds w F)(hi:Inv s)(ho:Ok s)(hz:s.sz<=16777000){a:At}(ha:a∈s.af)(u:Int):w.cell? ⟨x,5,none⟩=some (.int .i64 s.now)∧w.cell? ⟨x,0,none⟩=some (.int .i64 s.c.le)∧w.frozen? ⟨g.ap (key a),5,none⟩=false∧w.cell? ⟨g.ap (key a),5,none⟩=some (.int .i64 a.eV)∧ ∃kk:Nat,(w.setCell ⟨g.ap (key a),5,none⟩ (.int .i64 u)).cell? ⟨g.ap (key a),6,none⟩=some (.int .i64 kk)∧ ∀nq,Calls prog 185 #[xA x, .int .i64 kk] ((w.setCell ⟨g.ap (key a),5,none⟩ (.int .i64 u)).drewN nq) fun e w'=>e= .returned (.tuple #[])∧Goes (stA base x tb g cn {s with af:=s.af.map (renew (key a) u)}) w F w':=by
 obtain⟨j,r1,r2,r3,hF,hh⟩:=h;have wf:=fI r1 hi hz;unfold jA at hh;rw[cx]at hh;obtain⟨v,hv⟩:=hh;change (aa (bk x g j v) (wD tb s.out)).holds w F at hv;obtain⟨kk,nC,rfl⟩:=List.mem_iff_getElem.1 (r1.hp.symm.subset ha);obtain⟨Gj,rC,_⟩:=aM.left hv;have D:=yN rC;have Ad:(j.hp.map key).Nodup:=(r1.hp.map key).nodup_iff.2 ho.key;have hzl:kk<j.hp.zipIdx.length:=by simpa using nC
 have h2:=aB hv (show _=aa (blk (g.ap (key j.hp[kk])) (.cells (fW g j.hp[kk] kk) 126 (0,0))) (aa (all (fun x:At×Nat=>gD g x.1 x.2) (j.hp.zipIdx.eraseIdx kk)) (aa (dB x j v) (aa (eY g v.lv j.hp) (aa (aa (kN v.cm j.bT) (aa (jS g v.rm j.reqs) (aa (jk g v.tm j.aW) (aa (all jo j.bT) (aa (all (dO g j.c.re) j.reqs) (aa (all (gA g) j.aW) (aa (fK g v.rv j.ring) (jw v.pv j.pull)))))))) (wD tb s.out)))))by
  unfold bk hpA;rw[sw hzl];show _=aa (gD g j.hp[kk] kk) _;have:gD g j.hp.zipIdx[kk].1 j.hp.zipIdx[kk].2=gD g j.hp[kk] kk:=by simp
  rw[this]
  ac_rfl)
 obtain⟨cl,fz,_⟩:=bQ h2;have g2:=(Goes.refl h2).store 5 (.int .i64 u);have hlen:(j.hp.set kk {j.hp[kk]with eV:=u}).length=j.hp.length:=List.length_set ..;have Tu:(j.hp.set kk {j.hp[kk]with eV:=u}).map (fun a=>pt (g.ap (key a)))=j.hp.map fun a=>pt (g.ap (key a)):=by rw[<-vC Ad nC,aG];exact bY fun y _=>by simp only[Function.comp_def,(iC _ u y).1]
 have g3:=g2.eq (show _=aa (gy x (zE j v) g v.lv (j.hp.set kk {j.hp[kk]with eV:=u})) (aa (aa (kN v.cm j.bT) (aa (jS g v.rm j.reqs) (aa (jk g v.tm j.aW) (aa (all jo j.bT) (aa (all (dO g j.c.re) j.reqs) (aa (all (gA g) j.aW) (aa (fK g v.rv j.ring) (jw v.pv j.pull)))))))) (wD tb s.out))by
  unfold gy Av eY hpA;rw[Tu,hlen,JR,kM hzl];dsimp only;show aa (gD g {j.hp[kk]with eV:=u} kk) _=_;unfold dB
  ac_rfl)
 obtain⟨F3,iX,o3,n3⟩:=g3;have h6:(w.setCell ⟨g.ap (key j.hp[kk]),5,none⟩ (.int .i64 u)).cell? ⟨g.ap (key j.hp[kk]),6,none⟩=some (.int .i64 kk):=by obtain⟨F4,th,_⟩:=g2;exact(bQ th).1 6
 refine⟨by rw[D.1 5];show some (Value.int .i64 j.now)=_;rw[r1.now],by rw[D.1 0];show some (Value.int .i64 j.c.le)=_;rw[r1.c],fz 5,cl 5,kk,h6,fun nq=> ?_⟩;obtain⟨G4,H4,ha4,l9,d4,e4⟩:=cB iX nq;have Eh:Hp.Near (gH g) (j.hp.set kk {j.hp[kk]with eV:=u}) (j.hp.set kk {j.hp[kk]with eV:=u}).length kk:=by rw[hlen];exact Hp.Heap.changed (kL g) (ae _) r1.heap (fun k _ hk=>by rw[List.getElem?_set,if_neg (Ne.symm hk)])
 have hb:=wf.b4;refine(Tz x (zE j v) g v.lv _ kk _ G4 (by rfl) ha4 (by rw[hlen];exact nC) Eh (by rw[hlen];omega)).mono ?_;rintro e w'⟨rfl,bB,fw,vR,hg⟩;refine⟨rfl, ?_⟩;have g5:=aF o3 n3 (eT (q:=nq) (aV l9 hg d4 e4));have g6:Goes (aa (jA x g {j with hp:=bB}) (wD tb s.out)) w F w':=by
  refine g5.mono fun F' h'=> ?_;unfold jA;rw[cx];refine⟨v,aB h' ?_⟩;unfold bk gy Av;dsimp only;show _=aa (aa (blk x (.cells (zE j v) 88 (0,0))) _) _
  ac_rfl
 refine iD (j':={j with hp:=bB}) (s':={s with af:=s.af.map (renew (key j.hp[kk]) u)}) T hF (r1.U1 (key j.hp[kk]) u bB (by rw[vC Ad nC];exact fw) vR) ⟨fun b iI=> ?_,r2.2⟩ r3 g6;have hm:=fw.subset iI;rw[<-vC Ad nC]at hm;obtain⟨y,hy,rfl⟩:=aA.1 hm;rw[(iC _ u y).2.2.2];exact r2.1 y hy
variable{s:St}{w:World}{F:Ft}
theorem YQ(hi:Inv s)(ho:Ok s)(f:At->At)(hf: ∀a,(f a).id=a.id∧(f a).n=a.n∧(f a).conn=a.conn):Inv {s with af:=s.af.map f}∧Ok {s with af:=s.af.map f}∧({s with af:=s.af.map f}:St).sz=s.sz:=by
 have hc: ∀i,({s with af:=s.af.map f}:St).count i=s.count i:=fun i=>by unfold St.count;dsimp only;rw[List.countP_map];exact List.countP_congr fun y _=>by simp only[Function.comp_def,(hf y).1]
 have hh: ∀c,({s with af:=s.af.map f}:St).held c=s.held c:=fun c=>by unfold St.held;dsimp only;rw[List.countP_map];exact List.countP_congr fun y _=>by simp only[Function.comp_def,(hf y).2.2]
 refine⟨St.tB hi _ (fun a ha=> ?_),⟨ho.gone,fun y hy hd=> ?_, ?_,fun a ha r hr e=> ?_,fun r hr hd=> ?_⟩, ?_⟩
 ·obtain⟨b,hb,rfl⟩:=aA.1 ha;rw[(hf b).1];exact hi.bS b hb
 ·rw[hh];exact ho.dr y hy hd
 ·show((s.af.map f).map _).Nodup;rw[aG];have:s.af.map ((fun a=>(a.id,a.n))∘f)=s.af.map fun a=>(a.id,a.n):=bY fun y _=>by simp only[Function.comp_def,(hf y).1,(hf y).2.1]
  rw[this];exact ho.key
 ·obtain⟨b,hb,rfl⟩:=aA.1 ha;rw[(hf b).2.1];exact ho.num b hb r hr (by rw[e,(hf b).1])
 ·rw[hc];exact ho.hd r hr hd
 ·unfold St.sz;simp
theorem tQ{A B:aM}{w1 w':World}(hA:A.holds w F)(hb:Below w.heap.size w w1)(hB:Goes B w1 (fun _=>False) w'):Goes (aa A B) w F w':=by
 obtain⟨F',dR,o,n⟩:=hB;have iI:Below w.heap.size w w':=iz hb ((o.toBelow (fun _ h=>h.elim) (ae _)).mono hb.size);have hn: ∀k,F' k->w.heap.size<=k:=fun k hk=>(n k hk).elim False.elim (fun h=>aw hb.size h);refine⟨fun k=>F k∨F' k,⟨F,F',A.keep hA (fun k hk=>iI.block k (A.lt hA k hk)),dR,fun k hk jU=> ?_,fun k=>Iff.rfl⟩, ?_,fun k hk=> ?_⟩
 ·have:=A.lt hA k hk;have:=hn k jU;omega
 ·exact⟨iI.os,iI.tape,iI.output,iI.size,fun k hk _=>iI.block k hk⟩
 ·rcases hk with h|h
  ·exact .inl h
  ·exact .inr (hn k h)
theorem Qy{base x tb:Nat}{g:Gh}{cn:List (Int×Nat×Bs)}(h:(stA base x tb g cn s).holds w F)(hi:Inv s)(hz:s.sz<=16777000)(c:Int): ∃(hp:List At) (ao:Option Addr) (cap:Nat),hp.Perm s.af∧hp.length<=16777190∧x<w.heap.size∧w.cell? ⟨x,11,none⟩=some (.slice ao hp.length cap)∧ ∀w1,Below w.heap.size w w1->Calls prog 78 #[.slice ao hp.length cap, .func (.func 124) #[] #[.pointer (some ⟨w1.heap.size,0,none⟩)]] (w1.alloc (.cells #[.int .i64 c] 3)) fun e w'=> ∃v',e= .returned v'∧Below w.heap.size w w'∧Goes (aa (stA base x tb g cn s) (rowA 127 1 v' (hp.filter fun a=>a.conn==c).length ((hp.filter fun a=>a.conn==c).map fun a=>pt (g.ap (key a))))) w F w':=by
 have h0:=h;obtain⟨j,r1,r2,r3,hF,hh⟩:=h;obtain⟨G,H,hj,Al,_,_⟩:=hh;have wf:=fI r1 hi hz;obtain⟨v,hv⟩:=id hj;have c11:w.cell? ⟨x,11,none⟩=some v.lv:=(yN hv).1 11;have vd:x<w.heap.size:=(yN hv).2.2;obtain⟨⟨Gl,xw⟩,rD⟩:=Qc hv;obtain⟨ao,cap,LH⟩:=aX (Goes.refl xw);rw[LH]at c11 xw;have l9:=wf.b4;refine⟨j.hp,ao,cap,r1.hp,l9,vd,c11,fun w1 hB=> ?_⟩;have hB2:Below w.heap.size w (w1.alloc (.cells #[.int .i64 c] 3)):=hB.alloc hB.size _;refine(xT _ j.hp (fun a=>g.ap (key a)) (fun a=>a.conn==c) 124 #[.pointer (some ⟨w1.heap.size,0,none⟩)] (enters_of func124 (by kernel_rfl) rfl) _ Gl (Mr.au xw hB2) (fun wr hr y hy=> ?_) (by omega)).mono ?_
 ·obtain⟨i,dM,rfl⟩:=List.mem_iff_getElem.1 hy;have ha:=rD i dM;have ay:g.ap (key j.hp[i])<w.heap.size:=(cT.1 ha).1;have iA:=hB.size;have Iz:=hB2.size;refine qL (g.ap (key j.hp[i])) w1.heap.size c j.hp[i].conn wr ?_ ?_
  ·rw[hr.cell (p:=⟨_,2,none⟩) (bP ay Iz),hB2.cell (p:=⟨_,2,none⟩) ay];simp only[World.cell?,ha];rfl
  ·rw[hr.cell (p:=⟨w1.heap.size,0,none⟩) (by simp)];simp only[World.cell?,heap_alloc_new];rfl
 ·rintro e w'⟨v',rfl,hg⟩;have yz:=iz hB2 ((jG hg).mono hB2.size);exact⟨v',rfl,yz,tQ h0 hB2 hg⟩
def nQ(s:St)(K:List (Int×Int)):St:={s with af:=K.foldl (fun l k=>l.map (renew k (s.now+s.c.le))) s.af}
theorem KY(s:St)(K:List (Int×Int)):(nQ s K).af=s.af.map (fun a=>if key a∈K then{a with eV:=s.now+s.c.le}else a):=sS (s.now+s.c.le) 0 K s.af
theorem U2(hi:Inv s)(ho:Ok s)(K:List (Int×Int)):Inv (nQ s K)∧Ok (nQ s K)∧(nQ s K).sz=s.sz:=by have:=YQ hi ho (fun a=>if key a∈K then{a with eV:=s.now+s.c.le}else a) (fun a=>by split<;>exact⟨rfl,rfl,rfl⟩);rw[show({s with af:=s.af.map (fun a=>if key a∈K then{a with eV:=s.now+s.c.le}else a)}:St)=nQ s K by unfold nQ;rw[sS (s.now+s.c.le) 0]]at this;exact this
theorem MX(s:St)(K:List (Int×Int))(k:Int×Int):nQ s (K++ [k])={nQ s K with af:=(nQ s K).af.map (renew k ((nQ s K).now+(nQ s K).c.le))}:=by unfold nQ;rw[List.foldl_append];rfl
def AL(s:St)(c:Int):St:={s with af:=s.af.map (fun a=>if a.conn==c then{a with eV:=s.now+s.c.le}else a)}
theorem MW(ho:Ok s){hp:List At}(h:hp.Perm s.af)(c:Int):nQ s ((hp.filter fun a=>a.conn==c).map key)=AL s c:=by
 have e:(nQ s ((hp.filter fun a=>a.conn==c).map key)).af=(AL s c).af:=by
  rw[KY];refine bY fun a ha=> ?_;have:key a∈(hp.filter fun a=>a.conn==c).map key↔(a.conn==c)=true:=by
   rw[aA];constructor
   ·rintro⟨b,hb,e⟩;obtain⟨hb1,bN⟩:=aR.1 hb;have:b=a:=ck (k:=fun a:At=>(a.id,a.n)) ho.key (h.subset hb1) ha e;rw[<-this];exact bN
   ·intro e;exact⟨a,aR.2 ⟨h.symm.subset ha,e⟩,rfl⟩
  by_cases e:(a.conn==c)=true
  ·rw[if_pos (this.2 e),if_pos e]
  ·rw[if_neg (fun h=>e (this.1 h)),if_neg e]
 unfold nQ AL at*;dsimp only at e;rw[e]
