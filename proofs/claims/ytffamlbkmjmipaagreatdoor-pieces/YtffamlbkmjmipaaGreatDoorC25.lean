import Derived.Test.YtffamlbkmjmipaaGreatDoorC24
set_option maxHeartbeats 8000000
set_option maxRecDepth 100000
namespace Go.Proofs.YtffamlbkmjmipaaGreatDoor
open _root_.Go.Proofs.Tryz
namespace Pj
open Go.RowKit aD Mc bA Rel
attribute [local go_sem] ae ah
theorem qF{l:List At}(hn:(l.map key).Nodup){i:Nat}(hi:i<l.length)(u:Int):l.map (renew (key l[i]) u)=l.set i {l[i]with cS:=u}:=by
 apply List.ext_getElem?;intro k;rw[List.getElem?_map,List.getElem?_set];by_cases e:i=k
 ·subst e;rw[if_pos rfl,if_pos hi,aV hi];simp[renew]
 ·rw[if_neg e];cases hk:l[k]? with
  |none=>rfl
  |some y=>
   have cz:key y≠key l[i]:=fun e'=>by
    obtain⟨lj,rfl⟩:=cH.1 hk;have h:=List.pairwise_iff_getElem.1 hn;rcases Nat.lt_or_gt_of_ne e with h'|h'
    ·exact absurd (by rw[List.getElem_map,List.getElem_map];exact e'.symm) (h i k (by simpa using hi) (by simpa using lj) h')
    ·exact absurd (by rw[List.getElem_map,List.getElem_map];exact e') (h k i (by simpa using lj) (by simpa using hi) h')
   simp[renew,cz]
theorem Dq{α:Type}(l:List α)(i:Nat)(u:α):(l.set i u).zipIdx=l.zipIdx.set i (u,i):=by
 apply List.ext_getElem?;intro k;rw[List.getElem?_zipIdx,List.getElem?_set,List.getElem?_set,List.length_zipIdx];by_cases e:i=k
 ·subst e;rw[if_pos rfl,if_pos rfl];split<;>simp
 ·rw[if_neg e,if_neg e,List.getElem?_zipIdx]
theorem KY{base x tb:Nat}{g:Gh}{cn:List (Int×Nat×Bs)}{s:St}{w:World}{F:Ft}(T:Tabs base w)(h:(stA base x tb g cn s).holds w F)(hi:Inv s)(ho:Ok s)(hz:s.sz<=16777000){a:At}(ha:a∈s.ag)(u:Int):w.cell? ⟨x,5,none⟩=some (.int .i64 s.now)∧w.cell? ⟨x,0,none⟩=some (.int .i64 s.c.le)∧w.frozen? ⟨g.ap (key a),5,none⟩=false∧w.cell? ⟨g.ap (key a),5,none⟩=some (.int .i64 a.cS)∧ ∃kk:Nat,(w.setCell ⟨g.ap (key a),5,none⟩ (.int .i64 u)).cell? ⟨g.ap (key a),6,none⟩=some (.int .i64 kk)∧ ∀nq,Calls prog 185 #[sf x, .int .i64 kk] ((w.setCell ⟨g.ap (key a),5,none⟩ (.int .i64 u)).drewN nq) fun e w'=>e= .returned (.tuple #[])∧Goes (stA base x tb g cn {s with ag:=s.ag.map (renew (key a) u)}) w F w':=by
 obtain⟨j,r1,r2,r3,hF,hh⟩:=h;have wf:=dD r1 hi hz;unfold jA at hh;rw[bF]at hh;obtain⟨v,hv⟩:=hh;change (aa (aS x g j v) (rC tb s.out)).holds w F at hv;obtain⟨kk,ny,rfl⟩:=List.mem_iff_getElem.1 (r1.hp.symm.subset ha);obtain⟨Gj,mz,_⟩:=aD.left hv;have D:=tO mz;have Co:(j.hp.map key).Nodup:=(r1.hp.map key).nodup_iff.2 ho.key;have hzl:kk<j.hp.zipIdx.length:=by simpa using ny
 have h2:=aw hv (show _=aa (blk (g.ap (key j.hp[kk])) (.cells (kO g j.hp[kk] kk) 126 (0,0))) (aa (all (fun x:At×Nat=>eN g x.1 x.2) (j.hp.zipIdx.eraseIdx kk)) (aa (dB x j v) (aa (dm g v.lv j.hp) (aa (aa (iu v.cm j.br) (aa (gJ g v.rm j.reqs) (aa (fW g v.tm j.aI) (aa (all gi j.br) (aa (all (dP g j.c.re) j.reqs) (aa (all (eC g) j.aI) (aa (dF g v.rv j.ring) (gm v.pv j.pull)))))))) (rC tb s.out)))))by
  unfold aS hpA;rw[wX hzl];show _=aa (eN g j.hp[kk] kk) _;have:eN g j.hp.zipIdx[kk].1 j.hp.zipIdx[kk].2=eN g j.hp[kk] kk:=by simp
  rw[this]
  ac_rfl)
 obtain⟨cl,fz,_⟩:=bq h2;have g2:=(Goes.refl h2).store 5 (.int .i64 u);have hlen:(j.hp.set kk {j.hp[kk]with cS:=u}).length=j.hp.length:=List.length_set ..;have MP:(j.hp.set kk {j.hp[kk]with cS:=u}).map (fun a=>pt (g.ap (key a)))=j.hp.map fun a=>pt (g.ap (key a)):=by rw[<-qF Co ny,az];exact bu fun y _=>by simp only[Function.comp_def,(fH _ u y).1]
 have g3:=g2.eq (show _=aa (dY x (uI j v) g v.lv (j.hp.set kk {j.hp[kk]with cS:=u})) (aa (aa (iu v.cm j.br) (aa (gJ g v.rm j.reqs) (aa (fW g v.tm j.aI) (aa (all gi j.br) (aa (all (dP g j.c.re) j.reqs) (aa (all (eC g) j.aI) (aa (dF g v.rv j.ring) (gm v.pv j.pull)))))))) (rC tb s.out))by
  unfold dY vu dm hpA;rw[MP,hlen,Dq,rW hzl];dsimp only;show aa (eN g {j.hp[kk]with cS:=u} kk) _=_;unfold dB
  ac_rfl)
 obtain⟨F3,kT,o3,n3⟩:=g3;have h6:(w.setCell ⟨g.ap (key j.hp[kk]),5,none⟩ (.int .i64 u)).cell? ⟨g.ap (key j.hp[kk]),6,none⟩=some (.int .i64 kk):=by obtain⟨F4,u9,_⟩:=g2;exact(bq u9).1 6
 refine⟨by rw[D.1 5];show some (Value.int .i64 j.now)=_;rw[r1.now],by rw[D.1 0];show some (Value.int .i64 j.c.le)=_;rw[r1.c],fz 5,cl 5,kk,h6,fun nq=> ?_⟩;obtain⟨G4,H4,ha4,kQ,d4,e4⟩:=bI kT nq;have zP:Hp.Near (eT g) (j.hp.set kk {j.hp[kk]with cS:=u}) (j.hp.set kk {j.hp[kk]with cS:=u}).length kk:=by rw[hlen];exact Hp.Heap.changed (iq g) (af _) r1.heap (fun k _ hk=>by rw[List.getElem?_set,if_neg (Ne.symm hk)])
 have hb:=wf.b4;refine(MT x (uI j v) g v.lv _ kk _ G4 (by rfl) ha4 (by rw[hlen];exact ny) zP (by rw[hlen];omega)).mono ?_;rintro e w'⟨rfl,aX,dA,qY,hg⟩;refine⟨rfl, ?_⟩;have g5:=ay o3 n3 (cX (q:=nq) (aH kQ hg d4 e4));have g6:Goes (aa (jA x g {j with hp:=aX}) (rC tb s.out)) w F w':=by
  refine g5.mono fun F' h'=> ?_;unfold jA;rw[bF];refine⟨v,aw h' ?_⟩;unfold aS dY vu;dsimp only;show _=aa (aa (blk x (.cells (uI j v) 88 (0,0))) _) _
  ac_rfl
 refine fJ (j':={j with hp:=aX}) (s':={s with ag:=s.ag.map (renew (key j.hp[kk]) u)}) T hF (r1.Ob (key j.hp[kk]) u aX (by rw[qF Co ny];exact dA) qY) ⟨fun b jK=> ?_,r2.2⟩ r3 g6;have hm:=dA.subset jK;rw[<-qF Co ny]at hm;obtain⟨y,hy,rfl⟩:=ax.1 hm;rw[(fH _ u y).2.2.2];exact r2.1 y hy
variable{s:St}{w:World}{F:Ft}
theorem Rh(hi:Inv s)(ho:Ok s)(f:At->At)(hf: ∀a,(f a).id=a.id∧(f a).n=a.n∧(f a).conn=a.conn):Inv {s with ag:=s.ag.map f}∧Ok {s with ag:=s.ag.map f}∧({s with ag:=s.ag.map f}:St).sz=s.sz:=by
 have hc: ∀i,({s with ag:=s.ag.map f}:St).count i=s.count i:=fun i=>by unfold St.count;dsimp only;rw[List.countP_map];exact List.countP_congr fun y _=>by simp only[Function.comp_def,(hf y).1]
 have hh: ∀c,({s with ag:=s.ag.map f}:St).held c=s.held c:=fun c=>by unfold St.held;dsimp only;rw[List.countP_map];exact List.countP_congr fun y _=>by simp only[Function.comp_def,(hf y).2.2]
 refine⟨St.nZ hi _ (fun a ha=> ?_),⟨ho.gone,fun y hy hd=> ?_, ?_,fun a ha r hr e=> ?_,fun r hr hd=> ?_⟩, ?_⟩
 ·obtain⟨b,hb,rfl⟩:=ax.1 ha;rw[(hf b).1];exact hi.bB b hb
 ·rw[hh];exact ho.dr y hy hd
 ·show((s.ag.map f).map _).Nodup;rw[az];have:s.ag.map ((fun a=>(a.id,a.n))∘f)=s.ag.map fun a=>(a.id,a.n):=bu fun y _=>by simp only[Function.comp_def,(hf y).1,(hf y).2.1]
  rw[this];exact ho.key
 ·obtain⟨b,hb,rfl⟩:=ax.1 ha;rw[(hf b).2.1];exact ho.num b hb r hr (by rw[e,(hf b).1])
 ·rw[hc];exact ho.hd r hr hd
 ·unfold St.sz;simp
theorem oF{A B:aD}{w1 w':World}(hA:A.holds w F)(hb:Below w.heap.size w w1)(hB:Goes B w1 (fun _=>False) w'):Goes (aa A B) w F w':=by
 obtain⟨F',nk,o,n⟩:=hB;have jK:Below w.heap.size w w':=fC hb ((o.toBelow (fun _ h=>h.elim) (af _)).mono hb.size);have hn: ∀k,F' k->w.heap.size<=k:=fun k hk=>(n k hk).elim False.elim (fun h=>au hb.size h);refine⟨fun k=>F k∨F' k,⟨F,F',A.keep hA (fun k hk=>jK.block k (A.lt hA k hk)),nk,fun k hk lj=> ?_,fun k=>Iff.rfl⟩, ?_,fun k hk=> ?_⟩
 ·have:=A.lt hA k hk;have:=hn k lj;omega
 ·exact⟨jK.os,jK.tape,jK.output,jK.size,fun k hk _=>jK.block k hk⟩
 ·rcases hk with h|h
  ·exact .inl h
  ·exact .inr (hn k h)
theorem Kv{base x tb:Nat}{g:Gh}{cn:List (Int×Nat×Bs)}(h:(stA base x tb g cn s).holds w F)(hi:Inv s)(hz:s.sz<=16777000)(c:Int): ∃(hp:List At) (ao:Option Addr) (cap:Nat),hp.Perm s.ag∧hp.length<=16777190∧x<w.heap.size∧w.cell? ⟨x,11,none⟩=some (.slice ao hp.length cap)∧ ∀w1,Below w.heap.size w w1->Calls prog 78 #[.slice ao hp.length cap, .func (.func 124) #[] #[.pointer (some ⟨w1.heap.size,0,none⟩)]] (w1.alloc (.cells #[.int .i64 c] 3)) fun e w'=> ∃v',e= .returned v'∧Below w.heap.size w w'∧Goes (aa (stA base x tb g cn s) (rowA 127 1 v' (hp.filter fun a=>a.conn==c).length ((hp.filter fun a=>a.conn==c).map fun a=>pt (g.ap (key a))))) w F w':=by
 have h0:=h;obtain⟨j,r1,r2,r3,hF,hh⟩:=h;obtain⟨G,H,hj,Cx,_,_⟩:=hh;have wf:=dD r1 hi hz;obtain⟨v,hv⟩:=id hj;have c11:w.cell? ⟨x,11,none⟩=some v.lv:=(tO hv).1 11;have rb:x<w.heap.size:=(tO hv).2.2;obtain⟨⟨Gl,r7⟩,tA⟩:=J7 hv;obtain⟨ao,cap,E1⟩:=aJ (Goes.refl r7);rw[E1]at c11 r7;have kQ:=wf.b4;refine⟨j.hp,ao,cap,r1.hp,kQ,rb,c11,fun w1 hB=> ?_⟩;have mL:Below w.heap.size w (w1.alloc (.cells #[.int .i64 c] 3)):=hB.alloc hB.size _;refine(sM _ j.hp (fun a=>g.ap (key a)) (fun a=>a.conn==c) 124 #[.pointer (some ⟨w1.heap.size,0,none⟩)] (enters_of func124 (by kernel_rfl) rfl) _ Gl (Mr.aF r7 mL) (fun wr hr y hy=> ?_) (by omega)).mono ?_
 ·obtain⟨i,Fq,rfl⟩:=List.mem_iff_getElem.1 hy;have ha:=tA i Fq;have aQ:g.ap (key j.hp[i])<w.heap.size:=(bZ.1 ha).1;have jf:=hB.size;have JR:=mL.size;refine lS (g.ap (key j.hp[i])) w1.heap.size c j.hp[i].conn wr ?_ ?_
  ·rw[hr.cell (p:=⟨_,2,none⟩) (bE aQ JR),mL.cell (p:=⟨_,2,none⟩) aQ];simp only[World.cell?,ha];rfl
  ·rw[hr.cell (p:=⟨w1.heap.size,0,none⟩) (by simp)];simp only[World.cell?,heap_alloc_new];rfl
 ·rintro e w'⟨v',rfl,hg⟩;have tB:=fC mL ((gD hg).mono mL.size);exact⟨v',rfl,tB,oF h0 mL hg⟩
def j8(s:St)(K:List (Int×Int)):St:={s with ag:=K.foldl (fun l k=>l.map (renew k (s.now+s.c.le))) s.ag}
theorem Ex(s:St)(K:List (Int×Int)):(j8 s K).ag=s.ag.map (fun a=>if key a∈K then{a with cS:=s.now+s.c.le}else a):=nL (s.now+s.c.le) 0 K s.ag
theorem Oc(hi:Inv s)(ho:Ok s)(K:List (Int×Int)):Inv (j8 s K)∧Ok (j8 s K)∧(j8 s K).sz=s.sz:=by have:=Rh hi ho (fun a=>if key a∈K then{a with cS:=s.now+s.c.le}else a) (fun a=>by split<;>exact⟨rfl,rfl,rfl⟩);rw[show({s with ag:=s.ag.map (fun a=>if key a∈K then{a with cS:=s.now+s.c.le}else a)}:St)=j8 s K by unfold j8;rw[nL (s.now+s.c.le) 0]]at this;exact this
theorem Gf(s:St)(K:List (Int×Int))(k:Int×Int):j8 s (K++ [k])={j8 s K with ag:=(j8 s K).ag.map (renew k ((j8 s K).now+(j8 s K).c.le))}:=by unfold j8;rw[List.foldl_append];rfl
def vF(s:St)(c:Int):St:={s with ag:=s.ag.map (fun a=>if a.conn==c then{a with cS:=s.now+s.c.le}else a)}
theorem Ge(ho:Ok s){hp:List At}(h:hp.Perm s.ag)(c:Int):j8 s ((hp.filter fun a=>a.conn==c).map key)=vF s c:=by
 have e:(j8 s ((hp.filter fun a=>a.conn==c).map key)).ag=(vF s c).ag:=by
  rw[Ex];refine bu fun a ha=> ?_;have:key a∈(hp.filter fun a=>a.conn==c).map key↔(a.conn==c)=true:=by
   rw[ax];constructor
   ·rintro⟨b,hb,e⟩;obtain⟨bP,cL⟩:=aG.1 hb;have:b=a:=bC (k:=fun a:At=>(a.id,a.n)) ho.key (h.subset bP) ha e;rw[<-this];exact cL
   ·intro e;exact⟨a,aG.2 ⟨h.symm.subset ha,e⟩,rfl⟩
  by_cases e:(a.conn==c)=true
  ·rw[if_pos (this.2 e),if_pos e]
  ·rw[if_neg (fun h=>e (this.1 h)),if_neg e]
 unfold j8 vF at*;dsimp only at e;rw[e]
