import Derived.Test.YtffamlbkmjmipaaGreatDoorC24
set_option maxHeartbeats 8000000
set_option maxRecDepth 100000
namespace Go.Proofs.YtffamlbkmjmipaaGreatDoor
open _root_.Go.Proofs.Tryz
namespace Pj
open Go.RowKit aJ Mc bG
attribute [local go_sem] ae ag
section
variable{base x tb:Nat}{g:Gh}{cn:List (Int×Nat×Bs)}{s:St}{j:Js}{B:aJ}{w w':World}{F:Ft}
theorem Iy(l:List Kn)(c:Int):l.filter (fun k=>k.n !=c)=l.filter fun y=>decide (y.n≠c):=List.filter_congr fun y _=>by by_cases e:y.n=c<;>simp[e]
theorem RY(l:List Kn)(c:Int):(l.map fun k=>(k.n,k.p)).filter (fun x=>decide (x.1≠c))=(l.filter fun y=>decide (y.n≠c)).map fun k=>(k.n,k.p):=by rw[List.filter_map];rfl
theorem iH{α:Type}{A:α->aJ}(p:α->Bool): ∀(l:List α) (B:aJ) (w:World) (F:Ft),(aa (all A l) B).holds w F->Goes (aa (all A (l.filter p)) B) w F w
 | [],B,w,F,h=>Goes.refl h
 |y::l,B,w,F,h=>by
  by_cases e:p y=true
  ·rw[List.filter_cons_of_pos e];have h2:=aA h (show _=aa (all A l) (aa (A y) B)by show aa (aa (A y) (all A l)) B=_;ac_rfl);refine(iH p l (aa (A y) B) w F h2).eq ?_;show _=aa (aa (A y) (all A (l.filter p))) B
   ac_rfl
  ·rw[List.filter_cons_of_neg e];have h2:=aA h (show _=aa (aa (all A l) B) (A y)by show aa (aa (A y) (all A l)) B=_;ac_rfl);have h3:=(Goes.refl h2).drop;exact h3.trans fun F' h'=>iH p l B w F' h'
theorem Di(h:(aa (jA x g j) B).holds w F)(c:Int)(hc:I6 c)(nq:Nat): ∃cm w2,w.cell? ⟨x,6,none⟩=some (.map (some cm))∧(Builtin.delete_ #[81,3] 0 #[.map (some cm), .int .i64 c]).run prog (w.drewN nq)= .ok (.tuple #[]) w2∧Goes (aa (jA x g {j with bu:=j.bu.filter (fun k=>k.n !=c)}) B) w F w2:=by
 unfold jA at h;rw[bH]at h;obtain⟨v,h⟩:=h;change (aa (aW x g j v) B).holds w F at h;obtain⟨Gj,oh,_⟩:=aJ.left h;have D:=wJ oh;have h2:=aA h (show _=aa (iU v.cm j.bu) (aa (all gM j.bu) (aa (dB x j v) (aa (ib g v.rm j.reqs) (aa (gK g v.tm j.aQ) (aa (all (fc g j.c.re) j.reqs) (aa (all (fD g) j.aQ) (aa (dL g v.rv j.ring) (aa (gN v.pv j.pull) (aa (dh g v.lv j.hp) (aa (hpA g j.hp) B))))))))))by unfold aW;ac_rfl);obtain⟨G,H,Y2,bT,d1,e1⟩:=bI h2 nq;obtain⟨w2,wD,fw⟩:=yq Y2 underlying81 0 c hc;refine⟨v.cm,w2,D.1 6,wD, ?_⟩;have g2:=df (q:=nq) (aO bT fw d1 e1);have g3:=g2.eq (show _=aa (all gM j.bu) (aa (iU v.cm (j.bu.filter fun y=>decide (y.n≠c))) (aa (dB x j v) (aa (ib g v.rm j.reqs) (aa (gK g v.tm j.aQ) (aa (all (fc g j.c.re) j.reqs) (aa (all (fD g) j.aQ) (aa (dL g v.rv j.ring) (aa (gN v.pv j.pull) (aa (dh g v.lv j.hp) (aa (hpA g j.hp) B))))))))))by rw[RY];unfold iU;ac_rfl);have g4:=g3.trans fun F' h'=>iH (fun y=>decide (y.n≠c)) j.bu _ w2 F' h';refine g4.mono fun F' h'=> ?_;unfold jA;rw[bH];refine⟨v,aA h' ?_⟩;unfold aW;dsimp only;rw[Iy];show _=aa (aa (dB x j v) _) _
 ac_rfl
theorem Ws(h:(aa (jA x g j) B).holds w F)(hl:j.bu.length<=16777210)(c:Int)(hc:I6 c)(hn:c∉j.bu.map (·.n))(nq:Nat): ∃cm w2,w.cell? ⟨x,6,none⟩=some (.map (some cm))∧(w.alloc (.cells #[.slice none 0 0, .bool false] 107)).cell? ⟨x,6,none⟩=some (.map (some cm))∧(Instr.lookup 81 (.map (some cm)) (.int .i64 c) false).run prog w= .ok (.pointer none) w∧(Instr.mapUpdate 81 (.map (some cm)) (.int .i64 c) (pt w.heap.size)).run prog ((w.alloc (.cells #[.slice none 0 0, .bool false] 107)).drewN nq)= .ok () w2∧Goes (aa (jA x g {j with bu:=j.bu++ [⟨c,w.heap.size, [],false⟩]}) B) w F w2:=by
 unfold jA at h;rw[bH]at h;obtain⟨v,h⟩:=h;change (aa (aW x g j v) B).holds w F at h;obtain⟨Gj,oh,_⟩:=aJ.left h;have D:=wJ oh;obtain⟨Gc,hGc⟩:=Wq oh;have hk:c∉(j.bu.map fun k=>(k.n,k.p)).map (·.1):=by rw[aB];exact hn
 have nH:=kV hGc (t:=81) (e:=99) underlying81 (Ia w) c hc;rw[jx hk]at nH;have h1:=((Goes.refl h).alloc (.cells #[.slice none 0 0, .bool false] 107 (0,0))).drewN nq;obtain⟨F1,bU,o1,n1⟩:=h1;have h2:=aA bU (show _=aa (iU v.cm j.bu) (aa (Dn w.heap.size false (.slice none 0 0)) (aa (dB x j v) (aa (ib g v.rm j.reqs) (aa (gK g v.tm j.aQ) (aa (all gM j.bu) (aa (all (fc g j.c.re) j.reqs) (aa (all (fD g) j.aQ) (aa (dL g v.rv j.ring) (aa (gN v.pv j.pull) (aa (dh g v.lv j.hp) (aa (hpA g j.hp) B)))))))))))by unfold aW Dn;ac_rfl);obtain⟨G,H,Y2,bT,d1,e1⟩:=h2;obtain⟨w2,GC,fw⟩:=yr Y2 (t:=81) (e:=99) underlying81 (by rw[aF];unfold maxLen;omega) c hc w.heap.size hk;have c6:w.cell? ⟨x,6,none⟩=some (.map (some v.cm)):=D.1 6;refine⟨v.cm,w2,c6,by rw[<-c6];exact bN ((au _ _).alloc (af _) _) D.2.2,nH,GC, ?_⟩;have g2:=aC o1 n1 (aO bT fw d1 e1);refine g2.mono fun F' h'=> ?_;have h3:=aA h' (show _=aa (Dn w.heap.size false (.slice none 0 0)) (aa (mapA iW v.cm ((j.bu.map fun k=>(k.n,k.p))++ [(c,w.heap.size)])) (aa (dB x j v) (aa (ib g v.rm j.reqs) (aa (gK g v.tm j.aQ) (aa (all gM j.bu) (aa (all (fc g j.c.re) j.reqs) (aa (all (fD g) j.aQ) (aa (dL g v.rv j.ring) (aa (gN v.pv j.pull) (aa (dh g v.lv j.hp) (aa (hpA g j.hp) B)))))))))))by ac_rfl);have h4:(aa (gM ⟨c,w.heap.size, [],false⟩) (aa (mapA iW v.cm ((j.bu.map fun k=>(k.n,k.p))++ [(c,w.heap.size)])) (aa (dB x j v) (aa (ib g v.rm j.reqs) (aa (gK g v.tm j.aQ) (aa (all gM j.bu) (aa (all (fc g j.c.re) j.reqs) (aa (all (fD g) j.aQ) (aa (dL g v.rv j.ring) (aa (gN v.pv j.pull) (aa (dh g v.lv j.hp) (aa (hpA g j.hp) B)))))))))))).holds w2 F':=by obtain⟨G1,H1,a1,b1,dd,ee⟩:=h3;refine⟨G1,H1,⟨.slice none 0 0,G1,fun _=>False,a1,⟨World.ownsRow_nil _ _ _ _,fun k=>⟨False.elim,fun h=>by cases h⟩⟩,fun _ _ h=>h,fun k=>⟨.inl,fun h=>h.elim id False.elim⟩⟩,b1,dd,ee⟩
 unfold jA;rw[bH];refine⟨v,aA h4 ?_⟩;unfold aW iU;dsimp only;rw[aD,all_append];show _=aa (aa (dB x j v) _) _;have e5:all gM [(⟨c,w.heap.size, [],false⟩:Kn)]=gM ⟨c,w.heap.size, [],false⟩:=by show aa (gM _) emp=_;rw[se]
 rw[e5];show _=aa (aa (dB x j v) (aa (mapA iW v.cm ((j.bu.map fun k=>(k.n,k.p))++ [(c,w.heap.size)])) _)) _
 ac_rfl
end
end Pj
namespace Mc
open bG
namespace St
variable{s:St}
theorem Jr{a:At}(hi:Inv s)(ha:a∈s.ah)(hs:s.slow a=true): ∃r,s.req a.id=some r∧r∈s.reqs∧r.id=a.id∧r.hedged=false∧s.c.he<=s.now-a.sY:=by obtain⟨r,hr,IY,om⟩:=cu (hi.bF a ha);unfold slow at hs;rw[hr,bm]at hs;exact⟨r,hr,IY,om,by simpa using hs.2,by simpa using hs.1⟩
theorem Ec{a:At}(hi:Inv s)(ho:Ok s)(ha:a∈s.ah)(hs:s.slow a=true):s.count a.id=1∧s.waits a.id=false:=by
 obtain⟨r,hr,IY,om,hh,_⟩:=Jr hi ha hs;have Kc:0<s.count a.id:=by unfold count;rw[List.countP_pos_iff];exact⟨a,ha,by simp⟩
 obtain⟨h1,h2⟩:=ho.hd r IY hh;rw[om]at h1 h2;exact⟨by omega,h2 Kc⟩
theorem C1{a:At}(hi:Inv s)(ho:Ok s)(ha:a∈s.ah)(h0:s.c.he≠0)(Ey:0<=s.c.he)(hs:s.slow a=true):s.bk a=s.cF a:=by obtain⟨r,hr,IY,om,hh,ht⟩:=Jr hi ha hs;obtain⟨hc,hw⟩:=Ec hi ho ha hs;unfold bk cF;rw[hr];dsimp only;rw[if_pos (by simp[hh,hw,hc,ht];omega)]
theorem Gg{a b:At}(hi:Inv s)(ho:Ok s)(ha:a∈s.ah)(hb:b∈s.ah)(cA:(a.id,a.n)≠(b.id,b.n))(hs:s.slow a=true):(s.cF a).slow b=s.slow b:=by
 obtain⟨hc,_⟩:=Ec hi ho ha hs;have hid:b.id≠a.id:=fun e=>by
  have rG:a≠b:=fun e2=>cA (by rw[e2]);have:2<=s.count a.id:=by
   unfold count;rw[List.countP_eq_length_filter];exact Pj.gY (l:= [a,b]) (by simp[rG]) (fun x hx=>by
    simp at hx;rcases hx with rfl|rfl
    ·exact aL.2 ⟨ha,by simp⟩
    ·exact aL.2 ⟨hb,by simpa using e⟩)
  omega
 obtain⟨e1,e2,e3,_⟩:=lS (s:=s) a;unfold slow;rw[e2,e3];have:(s.cF a).req b.id=s.req b.id:=by unfold cF;rw[Al,jz hi a.id b.id (fun r=>{r with hedged:=true}) (fun _=>rfl)];simp only[if_neg hid];cases s.req b.id<;>rfl
 rw[this]
end St
end Mc
namespace Pj
open Mc bG
theorem Sd.cF{n:Nat}{s:St}(h:Sd n s){a:At}(ha:a∈s.ah)(h0:s.c.he≠0)(Ey:0<=s.c.he)(hs:s.slow a=true):Sd n (s.cF a):=by have e:=St.C1 h.inv h.ok ha h0 Ey hs;rw[<-e];exact⟨St.qa h.inv a,h.ok.bk h.inv a,by rw[St.z8];exact h.sz,h.bd.bk a⟩
structure lG(n:Nat)(s:St)(L:List At)(k:Nat)(s':St):Prop where
 sd:Sd n s'
 is:s'=(L.take k).foldl St.cF s
 same:s'.ah=s.ah∧s'.c=s.c∧s'.now=s.now
 slow: ∀i (h:i<L.length),k<=i->s'.slow L[i]=true
theorem lG.start{n:Nat}{s:St}(h:Sd n s):lG n s (s.ah.filter s.slow) 0 s:=
 ⟨h,rfl,⟨rfl,rfl,rfl⟩,fun _ hi _=>(aL.1 (bS hi)).2⟩
theorem lG.step{n:Nat}{s s':St}{k:Nat}(h:lG n s (s.ah.filter s.slow) k s')(ho:Ok s)(hk:k<(s.ah.filter s.slow).length)(h0:s.c.he≠0)(Ey:0<=s.c.he):lG n s (s.ah.filter s.slow) (k+1) (s'.cF (s.ah.filter s.slow)[k]):=by
 have hm: ∀i (hi:i<(s.ah.filter s.slow).length),(s.ah.filter s.slow)[i]∈s'.ah:=fun i hi=>by rw[h.same.1];exact(aL.1 (bS hi)).1
 have hsl:=h.slow k hk (af _);obtain⟨e1,e2,e3,_⟩:=St.lS (s:=s') (s.ah.filter s.slow)[k];refine⟨h.sd.cF (hm k hk) (by rw[h.same.2.1];exact h0) (by rw[h.same.2.1];exact Ey) hsl, ?_,⟨e1.trans h.same.1,e2.trans h.same.2.1,e3.trans h.same.2.2⟩,fun i hi hki=> ?_⟩
 ·rw[iG hk,List.foldl_append,<-h.is];rfl
 ·rw[St.Gg h.sd.inv h.sd.ok (hm k hk) (hm i hi) (fun e=> ?_) hsl]
  ·exact h.slow i hi (by omega)
  ·have iL:((s.ah.filter s.slow).map fun a=>(a.id,a.n)).Nodup:=(List.filter_sublist.map _).nodup ho.key;have hp:=List.pairwise_iff_getElem.1 iL;exact hp k i (by simpa using hk) (by simpa using hi) (by omega) (by rw[List.getElem_map,List.getElem_map];exact e)
