import Derived.Test.YtffamlbkmjmipaaGreatDoorC24
set_option maxHeartbeats 8000000
set_option maxRecDepth 100000
namespace Go.Proofs.YtffamlbkmjmipaaGreatDoor
open _root_.Go.Proofs.Tryz
namespace Pj
open Go.RowKit aM Mc bJ
attribute [local go_sem] ag ar
section
variable{base x tb:Nat}{g:Gh}{cn:List (Int×Nat×Bs)}{s:St}{j:Js}{B:aM}{w w':World}{F:Ft}
theorem Ki(l:List Kn)(c:Int):l.filter (fun k=>k.n !=c)=l.filter fun y=>decide (y.n≠c):=List.filter_congr fun y _=>by by_cases e:y.n=c<;>simp[e]
theorem Tb(l:List Kn)(c:Int):(l.map fun k=>(k.n,k.p)).filter (fun x=>decide (x.1≠c))=(l.filter fun y=>decide (y.n≠c)).map fun k=>(k.n,k.p):=by rw[List.filter_map];rfl
theorem km{α:Type}{A:α->aM}(p:α->Bool): ∀(l:List α) (B:aM) (w:World) (F:Ft),(aa (all A l) B).holds w F->Goes (aa (all A (l.filter p)) B) w F w
 | [],B,w,F,h=>Goes.refl h
 |y::l,B,w,F,h=>by
  by_cases e:p y=true
  ·rw[List.filter_cons_of_pos e];have h2:=aB h (show _=aa (all A l) (aa (A y) B)by show aa (aa (A y) (all A l)) B=_;ac_rfl);refine(km p l (aa (A y) B) w F h2).eq ?_;show _=aa (aa (A y) (all A (l.filter p))) B
   ac_rfl
  ·rw[List.filter_cons_of_neg e];have h2:=aB h (show _=aa (aa (all A l) B) (A y)by show aa (aa (A y) (all A l)) B=_;ac_rfl);have h3:=(Goes.refl h2).drop;exact h3.trans fun F' h'=>km p l B w F' h'
theorem Eu(h:(aa (jA x g j) B).holds w F)(c:Int)(hc:I6 c)(nq:Nat): ∃cm w2,w.cell? ⟨x,6,none⟩=some (.map (some cm))∧(Builtin.delete_ #[81,3] 0 #[.map (some cm), .int .i64 c]).run prog (w.drewN nq)= .ok (.tuple #[]) w2∧Goes (aa (jA x g {j with bT:=j.bT.filter (fun k=>k.n !=c)}) B) w F w2:=by
 unfold jA at h;rw[cx]at h;obtain⟨v,h⟩:=h;change (aa (bk x g j v) B).holds w F at h;obtain⟨Gj,rC,_⟩:=aM.left h;have D:=yN rC;have h2:=aB h (show _=aa (kN v.cm j.bT) (aa (all jo j.bT) (aa (dB x j v) (aa (jS g v.rm j.reqs) (aa (jk g v.tm j.aW) (aa (all (dO g j.c.re) j.reqs) (aa (all (gA g) j.aW) (aa (fK g v.rv j.ring) (aa (jw v.pv j.pull) (aa (eY g v.lv j.hp) (aa (hpA g j.hp) B))))))))))by unfold bk;ac_rfl);obtain⟨G,H,ha1,hb1,d1,e1⟩:=cB h2 nq;obtain⟨w2,yB,ld⟩:=za ha1 underlying81 0 c hc;refine⟨v.cm,w2,D.1 6,yB, ?_⟩;have g2:=eT (q:=nq) (aV hb1 ld d1 e1);have g3:=g2.eq (show _=aa (all jo j.bT) (aa (kN v.cm (j.bT.filter fun y=>decide (y.n≠c))) (aa (dB x j v) (aa (jS g v.rm j.reqs) (aa (jk g v.tm j.aW) (aa (all (dO g j.c.re) j.reqs) (aa (all (gA g) j.aW) (aa (fK g v.rv j.ring) (aa (jw v.pv j.pull) (aa (eY g v.lv j.hp) (aa (hpA g j.hp) B))))))))))by rw[Tb];unfold kN;ac_rfl);have g4:=g3.trans fun F' h'=>km (fun y=>decide (y.n≠c)) j.bT _ w2 F' h';refine g4.mono fun F' h'=> ?_;unfold jA;rw[cx];refine⟨v,aB h' ?_⟩;unfold bk;dsimp only;rw[Ki];show _=aa (aa (dB x j v) _) _
 ac_rfl
theorem Yn(h:(aa (jA x g j) B).holds w F)(hl:j.bT.length<=16777210)(c:Int)(hc:I6 c)(hn:c∉j.bT.map (·.n))(nq:Nat): ∃cm w2,w.cell? ⟨x,6,none⟩=some (.map (some cm))∧(w.alloc (.cells #[.slice none 0 0, .bool false] 107)).cell? ⟨x,6,none⟩=some (.map (some cm))∧(Instr.lookup 81 (.map (some cm)) (.int .i64 c) false).run prog w= .ok (.pointer none) w∧(Instr.mapUpdate 81 (.map (some cm)) (.int .i64 c) (pt w.heap.size)).run prog ((w.alloc (.cells #[.slice none 0 0, .bool false] 107)).drewN nq)= .ok () w2∧Goes (aa (jA x g {j with bT:=j.bT++ [⟨c,w.heap.size, [],false⟩]}) B) w F w2:=by
 unfold jA at h;rw[cx]at h;obtain⟨v,h⟩:=h;change (aa (bk x g j v) B).holds w F at h;obtain⟨Gj,rC,_⟩:=aM.left h;have D:=yN rC;obtain⟨Gc,zH⟩:=Ym rC;have hk:c∉(j.bT.map fun k=>(k.n,k.p)).map (·.1):=by rw[aG];exact hn
 have od:=nN zH (t:=81) (e:=99) underlying81 (JQ w) c hc;rw[lO hk]at od;have h1:=((Goes.refl h).alloc (.cells #[.slice none 0 0, .bool false] 107 (0,0))).drewN nq;obtain⟨F1,cd,o1,n1⟩:=h1;have h2:=aB cd (show _=aa (kN v.cm j.bT) (aa (EA w.heap.size false (.slice none 0 0)) (aa (dB x j v) (aa (jS g v.rm j.reqs) (aa (jk g v.tm j.aW) (aa (all jo j.bT) (aa (all (dO g j.c.re) j.reqs) (aa (all (gA g) j.aW) (aa (fK g v.rv j.ring) (aa (jw v.pv j.pull) (aa (eY g v.lv j.hp) (aa (hpA g j.hp) B)))))))))))by unfold bk EA;ac_rfl);obtain⟨G,H,ha1,hb1,d1,e1⟩:=h2;obtain⟨w2,Iw,ld⟩:=zb ha1 (t:=81) (e:=99) underlying81 (by rw[bf];unfold maxLen;omega) c hc w.heap.size hk;have c6:w.cell? ⟨x,6,none⟩=some (.map (some v.cm)):=D.1 6;refine⟨v.cm,w2,c6,by rw[<-c6];exact cL ((ah _ _).alloc (ae _) _) D.2.2,od,Iw, ?_⟩;have g2:=aF o1 n1 (aV hb1 ld d1 e1);refine g2.mono fun F' h'=> ?_;have h3:=aB h' (show _=aa (EA w.heap.size false (.slice none 0 0)) (aa (mapA kS v.cm ((j.bT.map fun k=>(k.n,k.p))++ [(c,w.heap.size)])) (aa (dB x j v) (aa (jS g v.rm j.reqs) (aa (jk g v.tm j.aW) (aa (all jo j.bT) (aa (all (dO g j.c.re) j.reqs) (aa (all (gA g) j.aW) (aa (fK g v.rv j.ring) (aa (jw v.pv j.pull) (aa (eY g v.lv j.hp) (aa (hpA g j.hp) B)))))))))))by ac_rfl);have h4:(aa (jo ⟨c,w.heap.size, [],false⟩) (aa (mapA kS v.cm ((j.bT.map fun k=>(k.n,k.p))++ [(c,w.heap.size)])) (aa (dB x j v) (aa (jS g v.rm j.reqs) (aa (jk g v.tm j.aW) (aa (all jo j.bT) (aa (all (dO g j.c.re) j.reqs) (aa (all (gA g) j.aW) (aa (fK g v.rv j.ring) (aa (jw v.pv j.pull) (aa (eY g v.lv j.hp) (aa (hpA g j.hp) B)))))))))))).holds w2 F':=by obtain⟨G1,H1,a1,b1,dd,ee⟩:=h3;refine⟨G1,H1,⟨.slice none 0 0,G1,fun _=>False,a1,⟨World.ownsRow_nil _ _ _ _,fun k=>⟨False.elim,fun h=>by cases h⟩⟩,fun _ _ h=>h,fun k=>⟨.inl,fun h=>h.elim id False.elim⟩⟩,b1,dd,ee⟩
 unfold jA;rw[cx];refine⟨v,aB h4 ?_⟩;unfold bk kN;dsimp only;rw[aH,all_append];show _=aa (aa (dB x j v) _) _;have e5:all jo [(⟨c,w.heap.size, [],false⟩:Kn)]=jo ⟨c,w.heap.size, [],false⟩:=by show aa (jo _) emp=_;rw[mO]
 rw[e5];show _=aa (aa (dB x j v) (aa (mapA kS v.cm ((j.bT.map fun k=>(k.n,k.p))++ [(c,w.heap.size)])) _)) _
 ac_rfl
end
end Pj
namespace Mc
open bJ
namespace St
variable{s:St}
theorem K4{a:At}(hi:Inv s)(ha:a∈s.af)(hs:s.slow a=true): ∃r,s.req a.id=some r∧r∈s.reqs∧r.id=a.id∧r.bn=false∧s.c.he<=s.now-a.k7:=by obtain⟨r,hr,KI,oK⟩:=cz (hi.bS a ha);unfold slow at hs;rw[hr,bZ]at hs;exact⟨r,hr,KI,oK,by simpa using hs.2,by simpa using hs.1⟩
theorem FR{a:At}(hi:Inv s)(ho:Ok s)(ha:a∈s.af)(hs:s.slow a=true):s.count a.id=1∧s.waits a.id=false:=by
 obtain⟨r,hr,KI,oK,hh,_⟩:=K4 hi ha hs;have LZ:0<s.count a.id:=by unfold count;rw[List.countP_pos_iff];exact⟨a,ha,by simp⟩
 obtain⟨h1,h2⟩:=ho.hd r KI hh;rw[oK]at h1 h2;exact⟨by omega,h2 LZ⟩
theorem D5{a:At}(hi:Inv s)(ho:Ok s)(ha:a∈s.af)(h0:s.c.he≠0)(xt:0<=s.c.he)(hs:s.slow a=true):s.bA a=s.dG a:=by obtain⟨r,hr,KI,oK,hh,ht⟩:=K4 hi ha hs;obtain⟨hc,hw⟩:=FR hi ho ha hs;unfold bA dG;rw[hr];dsimp only;rw[if_pos (by simp[hh,hw,hc,ht];omega)]
theorem Ii{a b:At}(hi:Inv s)(ho:Ok s)(ha:a∈s.af)(hb:b∈s.af)(cC:(a.id,a.n)≠(b.id,b.n))(hs:s.slow a=true):(s.dG a).slow b=s.slow b:=by
 obtain⟨hc,_⟩:=FR hi ho ha hs;have hid:b.id≠a.id:=fun e=>by
  have oa:a≠b:=fun e2=>cC (by rw[e2]);have:2<=s.count a.id:=by
   unfold count;rw[List.countP_eq_length_filter];exact Pj.jN (l:= [a,b]) (by simp[oa]) (fun x hx=>by
    simp at hx;rcases hx with rfl|rfl
    ·exact aR.2 ⟨ha,by simp⟩
    ·exact aR.2 ⟨hb,by simpa using e⟩)
  omega
 obtain⟨e1,e2,e3,_⟩:=oH (s:=s) a;unfold slow;rw[e2,e3];have:(s.dG a).req b.id=s.req b.id:=by unfold dG;rw[Bn,lT hi a.id b.id (fun r=>{r with bn:=true}) (fun _=>rfl)];simp only[if_neg hid];cases s.req b.id<;>rfl
 rw[this]
end St
end Mc
namespace Pj
open Mc bJ
theorem Sd.dG{n:Nat}{s:St}(h:Sd n s){a:At}(ha:a∈s.af)(h0:s.c.he≠0)(xt:0<=s.c.he)(hs:s.slow a=true):Sd n (s.dG a):=by have e:=St.D5 h.inv h.ok ha h0 xt hs;rw[<-e];exact⟨St.oG h.inv a,h.ok.bA h.inv a,by rw[St.A8];exact h.sz,h.bd.bA a⟩
structure ow(n:Nat)(s:St)(L:List At)(k:Nat)(s':St):Prop where
 sd:Sd n s'
 is:s'=(L.take k).foldl St.dG s
 same:s'.af=s.af∧s'.c=s.c∧s'.now=s.now
 slow: ∀i (h:i<L.length),k<=i->s'.slow L[i]=true
theorem ow.start{n:Nat}{s:St}(h:Sd n s):ow n s (s.af.filter s.slow) 0 s:=
 ⟨h,rfl,⟨rfl,rfl,rfl⟩,fun _ hi _=>(aR.1 (aY hi)).2⟩
theorem ow.step{n:Nat}{s s':St}{k:Nat}(h:ow n s (s.af.filter s.slow) k s')(ho:Ok s)(hk:k<(s.af.filter s.slow).length)(h0:s.c.he≠0)(xt:0<=s.c.he):ow n s (s.af.filter s.slow) (k+1) (s'.dG (s.af.filter s.slow)[k]):=by
 have hm: ∀i (hi:i<(s.af.filter s.slow).length),(s.af.filter s.slow)[i]∈s'.af:=fun i hi=>by rw[h.same.1];exact(aR.1 (aY hi)).1
 have zK:=h.slow k hk (ae _);obtain⟨e1,e2,e3,_⟩:=St.oH (s:=s') (s.af.filter s.slow)[k];refine⟨h.sd.dG (hm k hk) (by rw[h.same.2.1];exact h0) (by rw[h.same.2.1];exact xt) zK, ?_,⟨e1.trans h.same.1,e2.trans h.same.2.1,e3.trans h.same.2.2⟩,fun i hi Ac=> ?_⟩
 ·rw[fp hk,List.foldl_append,<-h.is];rfl
 ·rw[St.Ii h.sd.inv h.sd.ok (hm k hk) (hm i hi) (fun e=> ?_) zK]
  ·exact h.slow i hi (by omega)
  ·have jJ:((s.af.filter s.slow).map fun a=>(a.id,a.n)).Nodup:=(List.filter_sublist.map _).nodup ho.key;have hp:=List.pairwise_iff_getElem.1 jJ;exact hp k i (by simpa using hk) (by simpa using hi) (by omega) (by rw[List.getElem_map,List.getElem_map];exact e)
