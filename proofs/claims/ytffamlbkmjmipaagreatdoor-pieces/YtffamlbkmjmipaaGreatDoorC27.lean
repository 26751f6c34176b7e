import Derived.Test.YtffamlbkmjmipaaGreatDoorC24
set_option maxHeartbeats 8000000
set_option maxRecDepth 100000
namespace Go.Proofs.YtffamlbkmjmipaaGreatDoor
open _root_.Go.Proofs.Tryz
namespace Pj
open Go.RowKit aD Mc bA
attribute [local go_sem] ae ah
section
variable{base x tb:Nat}{g:Gh}{cn:List (Int×Nat×Bs)}{s:St}{j:Js}{B:aD}{w w':World}{F:Ft}
theorem DN(l:List Kn)(c:Int):l.filter (fun k=>k.n !=c)=l.filter fun y=>decide (y.n≠c):=List.filter_congr fun y _=>by by_cases e:y.n=c<;>simp[e]
theorem Mx(l:List Kn)(c:Int):(l.map fun k=>(k.n,k.p)).filter (fun x=>decide (x.1≠c))=(l.filter fun y=>decide (y.n≠c)).map fun k=>(k.n,k.p):=by rw[List.filter_map];rfl
theorem gX{α:Type}{A:α->aD}(p:α->Bool): ∀(l:List α) (B:aD) (w:World) (F:Ft),(aa (all A l) B).holds w F->Goes (aa (all A (l.filter p)) B) w F w
 | [],B,w,F,h=>Goes.refl h
 |y::l,B,w,F,h=>by
  by_cases e:p y=true
  ·rw[List.filter_cons_of_pos e];have h2:=aw h (show _=aa (all A l) (aa (A y) B)by show aa (aa (A y) (all A l)) B=_;ac_rfl);refine(gX p l (aa (A y) B) w F h2).eq ?_;show _=aa (aa (A y) (all A (l.filter p))) B
   ac_rfl
  ·rw[List.filter_cons_of_neg e];have h2:=aw h (show _=aa (aa (all A l) B) (A y)by show aa (aa (A y) (all A l)) B=_;ac_rfl);have h3:=(Goes.refl h2).drop;exact h3.trans fun F' h'=>gX p l B w F' h'
theorem z6(h:(aa (jA x g j) B).holds w F)(c:Int)(hc:I6 c)(nq:Nat): ∃cm w2,w.cell? ⟨x,6,none⟩=some (.map (some cm))∧(Builtin.delete_ #[81,3] 0 #[.map (some cm), .int .i64 c]).run prog (w.drewN nq)= .ok (.tuple #[]) w2∧Goes (aa (jA x g {j with br:=j.br.filter (fun k=>k.n !=c)}) B) w F w2:=by
 unfold jA at h;rw[bF]at h;obtain⟨v,h⟩:=h;change (aa (aS x g j v) B).holds w F at h;obtain⟨Gj,mz,_⟩:=aD.left h;have D:=tO mz;have h2:=aw h (show _=aa (iu v.cm j.br) (aa (all gi j.br) (aa (dB x j v) (aa (gJ g v.rm j.reqs) (aa (fW g v.tm j.aI) (aa (all (dP g j.c.re) j.reqs) (aa (all (eC g) j.aI) (aa (dF g v.rv j.ring) (aa (gm v.pv j.pull) (aa (dm g v.lv j.hp) (aa (hpA g j.hp) B))))))))))by unfold aS;ac_rfl);obtain⟨G,H,Ti,bP,d1,e1⟩:=bI h2 nq;obtain⟨w2,tD,eO⟩:=ua Ti underlying81 0 c hc;refine⟨v.cm,w2,D.1 6,tD, ?_⟩;have g2:=cX (q:=nq) (aH bP eO d1 e1);have g3:=g2.eq (show _=aa (all gi j.br) (aa (iu v.cm (j.br.filter fun y=>decide (y.n≠c))) (aa (dB x j v) (aa (gJ g v.rm j.reqs) (aa (fW g v.tm j.aI) (aa (all (dP g j.c.re) j.reqs) (aa (all (eC g) j.aI) (aa (dF g v.rv j.ring) (aa (gm v.pv j.pull) (aa (dm g v.lv j.hp) (aa (hpA g j.hp) B))))))))))by rw[Mx];unfold iu;ac_rfl);have g4:=g3.trans fun F' h'=>gX (fun y=>decide (y.n≠c)) j.br _ w2 F' h';refine g4.mono fun F' h'=> ?_;unfold jA;rw[bF];refine⟨v,aw h' ?_⟩;unfold aS;dsimp only;rw[DN];show _=aa (aa (dB x j v) _) _
 ac_rfl
theorem QP(h:(aa (jA x g j) B).holds w F)(hl:j.br.length<=16777210)(c:Int)(hc:I6 c)(hn:c∉j.br.map (·.n))(nq:Nat): ∃cm w2,w.cell? ⟨x,6,none⟩=some (.map (some cm))∧(w.alloc (.cells #[.slice none 0 0, .bool false] 107)).cell? ⟨x,6,none⟩=some (.map (some cm))∧(Instr.lookup 81 (.map (some cm)) (.int .i64 c) false).run prog w= .ok (.pointer none) w∧(Instr.mapUpdate 81 (.map (some cm)) (.int .i64 c) (pt w.heap.size)).run prog ((w.alloc (.cells #[.slice none 0 0, .bool false] 107)).drewN nq)= .ok () w2∧Goes (aa (jA x g {j with br:=j.br++ [⟨c,w.heap.size, [],false⟩]}) B) w F w2:=by
 unfold jA at h;rw[bF]at h;obtain⟨v,h⟩:=h;change (aa (aS x g j v) B).holds w F at h;obtain⟨Gj,mz,_⟩:=aD.left h;have D:=tO mz;obtain⟨Gc,WL⟩:=QO mz;have hk:c∉(j.br.map fun k=>(k.n,k.p)).map (·.1):=by rw[az];exact hn
 have gZ:=j6 WL (t:=81) (e:=99) underlying81 (Dp w) c hc;rw[iX hk]at gZ;have h1:=((Goes.refl h).alloc (.cells #[.slice none 0 0, .bool false] 107 (0,0))).drewN nq;obtain⟨F1,bU,o1,n1⟩:=h1;have h2:=aw bU (show _=aa (iu v.cm j.br) (aa (Ae w.heap.size false (.slice none 0 0)) (aa (dB x j v) (aa (gJ g v.rm j.reqs) (aa (fW g v.tm j.aI) (aa (all gi j.br) (aa (all (dP g j.c.re) j.reqs) (aa (all (eC g) j.aI) (aa (dF g v.rv j.ring) (aa (gm v.pv j.pull) (aa (dm g v.lv j.hp) (aa (hpA g j.hp) B)))))))))))by unfold aS Ae;ac_rfl);obtain⟨G,H,Ti,bP,d1,e1⟩:=h2;obtain⟨w2,Cr,eO⟩:=ud Ti (t:=81) (e:=99) underlying81 (by rw[aR];unfold maxLen;omega) c hc w.heap.size hk;have c6:w.cell? ⟨x,6,none⟩=some (.map (some v.cm)):=D.1 6;refine⟨v.cm,w2,c6,by rw[<-c6];exact bN ((ar _ _).alloc (af _) _) D.2.2,gZ,Cr, ?_⟩;have g2:=ay o1 n1 (aH bP eO d1 e1);refine g2.mono fun F' h'=> ?_;have h3:=aw h' (show _=aa (Ae w.heap.size false (.slice none 0 0)) (aa (mapA iA v.cm ((j.br.map fun k=>(k.n,k.p))++ [(c,w.heap.size)])) (aa (dB x j v) (aa (gJ g v.rm j.reqs) (aa (fW g v.tm j.aI) (aa (all gi j.br) (aa (all (dP g j.c.re) j.reqs) (aa (all (eC g) j.aI) (aa (dF g v.rv j.ring) (aa (gm v.pv j.pull) (aa (dm g v.lv j.hp) (aa (hpA g j.hp) B)))))))))))by ac_rfl);have h4:(aa (gi ⟨c,w.heap.size, [],false⟩) (aa (mapA iA v.cm ((j.br.map fun k=>(k.n,k.p))++ [(c,w.heap.size)])) (aa (dB x j v) (aa (gJ g v.rm j.reqs) (aa (fW g v.tm j.aI) (aa (all gi j.br) (aa (all (dP g j.c.re) j.reqs) (aa (all (eC g) j.aI) (aa (dF g v.rv j.ring) (aa (gm v.pv j.pull) (aa (dm g v.lv j.hp) (aa (hpA g j.hp) B)))))))))))).holds w2 F':=by obtain⟨G1,H1,a1,b1,dd,ee⟩:=h3;refine⟨G1,H1,⟨.slice none 0 0,G1,fun _=>False,a1,⟨World.ownsRow_nil _ _ _ _,fun k=>⟨False.elim,fun h=>by cases h⟩⟩,fun _ _ h=>h,fun k=>⟨.inl,fun h=>h.elim id False.elim⟩⟩,b1,dd,ee⟩
 unfold jA;rw[bF];refine⟨v,aw h4 ?_⟩;unfold aS iu;dsimp only;rw[aB,all_append];show _=aa (aa (dB x j v) _) _;have e5:all gi [(⟨c,w.heap.size, [],false⟩:Kn)]=gi ⟨c,w.heap.size, [],false⟩:=by show aa (gi _) emp=_;rw[mj]
 rw[e5];show _=aa (aa (dB x j v) (aa (mapA iA v.cm ((j.br.map fun k=>(k.n,k.p))++ [(c,w.heap.size)])) _)) _
 ac_rfl
end
end Pj
namespace Mc
open bA
namespace St
variable{s:St}
theorem ED{a:At}(hi:Inv s)(ha:a∈s.ag)(hs:s.slow a=true): ∃r,s.req a.id=some r∧r∈s.reqs∧r.id=a.id∧r.hedged=false∧s.c.he<=s.now-a.eJ:=by obtain⟨r,hr,Ec,mB⟩:=cf (hi.bB a ha);unfold slow at hs;rw[hr,a8]at hs;exact⟨r,hr,Ec,mB,by simpa using hs.2,by simpa using hs.1⟩
theorem Ba{a:At}(hi:Inv s)(ho:Ok s)(ha:a∈s.ag)(hs:s.slow a=true):s.count a.id=1∧s.waits a.id=false:=by
 obtain⟨r,hr,Ec,mB,hh,_⟩:=ED hi ha hs;have Fi:0<s.count a.id:=by unfold count;rw[List.countP_pos_iff];exact⟨a,ha,by simp⟩
 obtain⟨h1,h2⟩:=ho.hd r Ec hh;rw[mB]at h1 h2;exact⟨by omega,h2 Fi⟩
theorem zJ{a:At}(hi:Inv s)(ho:Ok s)(ha:a∈s.ag)(h0:s.c.he≠0)(DY:0<=s.c.he)(hs:s.slow a=true):s.bG a=s.cF a:=by obtain⟨r,hr,Ec,mB,hh,ht⟩:=ED hi ha hs;obtain⟨hc,hw⟩:=Ba hi ho ha hs;unfold bG cF;rw[hr];dsimp only;rw[if_pos (by simp[hh,hw,hc,ht];omega)]
theorem Ch{a b:At}(hi:Inv s)(ho:Ok s)(ha:a∈s.ag)(hb:b∈s.ag)(cz:(a.id,a.n)≠(b.id,b.n))(hs:s.slow a=true):(s.cF a).slow b=s.slow b:=by
 obtain⟨hc,_⟩:=Ba hi ho ha hs;have hid:b.id≠a.id:=fun e=>by
  have qi:a≠b:=fun e2=>cz (by rw[e2]);have:2<=s.count a.id:=by
   unfold count;rw[List.countP_eq_length_filter];exact Pj.gH (l:= [a,b]) (by simp[qi]) (fun x hx=>by
    simp at hx;rcases hx with rfl|rfl
    ·exact aG.2 ⟨ha,by simp⟩
    ·exact aG.2 ⟨hb,by simpa using e⟩)
  omega
 obtain⟨e1,e2,e3,_⟩:=kB (s:=s) a;unfold slow;rw[e2,e3];have:(s.cF a).req b.id=s.req b.id:=by unfold cF;rw[wI,iZ hi a.id b.id (fun r=>{r with hedged:=true}) (fun _=>rfl)];simp only[if_neg hid];cases s.req b.id<;>rfl
 rw[this]
end St
end Mc
namespace Pj
open Mc bA
theorem Sd.cF{n:Nat}{s:St}(h:Sd n s){a:At}(ha:a∈s.ag)(h0:s.c.he≠0)(DY:0<=s.c.he)(hs:s.slow a=true):Sd n (s.cF a):=by have e:=St.zJ h.inv h.ok ha h0 DY hs;rw[<-e];exact⟨St.nx h.inv a,h.ok.bG h.inv a,by rw[St.wh];exact h.sz,h.bd.bG a⟩
structure kj(n:Nat)(s:St)(L:List At)(k:Nat)(s':St):Prop where
 sd:Sd n s'
 is:s'=(L.take k).foldl St.cF s
 same:s'.ag=s.ag∧s'.c=s.c∧s'.now=s.now
 slow: ∀i (h:i<L.length),k<=i->s'.slow L[i]=true
theorem kj.start{n:Nat}{s:St}(h:Sd n s):kj n s (s.ag.filter s.slow) 0 s:=
 ⟨h,rfl,⟨rfl,rfl,rfl⟩,fun _ hi _=>(aG.1 (bY hi)).2⟩
theorem kj.step{n:Nat}{s s':St}{k:Nat}(h:kj n s (s.ag.filter s.slow) k s')(ho:Ok s)(hk:k<(s.ag.filter s.slow).length)(h0:s.c.he≠0)(DY:0<=s.c.he):kj n s (s.ag.filter s.slow) (k+1) (s'.cF (s.ag.filter s.slow)[k]):=by
 have hm: ∀i (hi:i<(s.ag.filter s.slow).length),(s.ag.filter s.slow)[i]∈s'.ag:=fun i hi=>by rw[h.same.1];exact(aG.1 (bY hi)).1
 have QH:=h.slow k hk (af _);obtain⟨e1,e2,e3,_⟩:=St.kB (s:=s') (s.ag.filter s.slow)[k];refine⟨h.sd.cF (hm k hk) (by rw[h.same.2.1];exact h0) (by rw[h.same.2.1];exact DY) QH, ?_,⟨e1.trans h.same.1,e2.trans h.same.2.1,e3.trans h.same.2.2⟩,fun i hi Z6=> ?_⟩
 ·rw[kV hk,List.foldl_append,<-h.is];rfl
 ·rw[St.Ch h.sd.inv h.sd.ok (hm k hk) (hm i hi) (fun e=> ?_) QH]
  ·exact h.slow i hi (by omega)
  ·have gw:((s.ag.filter s.slow).map fun a=>(a.id,a.n)).Nodup:=(List.filter_sublist.map _).nodup ho.key;have hp:=List.pairwise_iff_getElem.1 gw;exact hp k i (by simpa using hk) (by simpa using hi) (by omega) (by rw[List.getElem_map,List.getElem_map];exact e)
