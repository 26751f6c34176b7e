import Derived.Test.YtffamlbkmjmipaaGreatDoorB09
set_option maxHeartbeats 8000000
set_option maxRecDepth 100000
namespace Go.Proofs.YtffamlbkmjmipaaGreatDoor
open _root_.Go.Proofs.Tryz
namespace Mr
open Go.RowKit aM Mc
attribute [local go_sem] aL.ag aL.ar
variable{p k g1 off cap:Nat}{s:St}{m:MV}{g:List (Ln×Value)}{w w' w1 w2:World}{F:Ft}{v:Value}{ids:List Int}{id:Int}{first:Bool}
theorem kM{α:Type}(A:α->aM)(l:List α)(k:Nat)(hk:k<l.length)(x:α):all A (l.set k x)=aa (A x) (all A (l.eraseIdx k)):=by
 induction l generalizing k with
 |nil=>simp at hk
 |cons y l ih=>
  match k with
  |0=>rfl
  |k+1=>show aa (A y) (all A (l.set k x))=aa (A x) (aa (A y) (all A (l.eraseIdx k)));rw[ih k (by simpa using hk),bq]
theorem sw{α:Type}(A:α->aM)(l:List α)(k:Nat)(hk:k<l.length):all A l=aa (A (l[k]'hk)) (all A (l.eraseIdx k)):=by have:=kM A l k hk (l[k]'hk);rwa[List.set_getElem_self]at this
theorem qW(p:Nat)(s:St)(m:MV)(g:List (Ln×Value))(k:Nat)(hk:k<g.length):aI p s m g=aa (inA (g[k]'hk).2 (g[k]'hk).1.ids) (aa (rowA 176 2 m.gv g.length (flat eN g)) (aa (all (fun x=>inA x.2 x.1.ids) (g.eraseIdx k)) (aa (iM p s m) (aa (dO m.rv s.reqs) (aa (mz m.av s.af) (aa (inA m.wv s.wait) (aa (lz m.cv s.aq) (iB m.ov s.out)))))))):=by
 rw[kW];unfold rX;rw[sw (fun x:Ln×Value=>inA x.2 x.1.ids) g k hk]
 ac_rfl
theorem EU{α β:Type}(f:α->β)(l:List α)(k:Nat)(x:α):(l.set k x).map f=(l.map f).set k (f x):=by rw[List.map_set]
def wZ(p:Nat)(s:St)(v:Value):aM:=ex fun m:MV=>ex fun g:List (Ln×Value)=>aa (fact (g.map (·.1)=s.ring∧m.av=v)) (aI p s m g)
theorem oO(hr:g.map (·.1)=s.ring)(hv:m.av=v)(h:Goes (aI p s m g) w F w'):Goes (wZ p s v) w F w':=
 Goes.ex m (Goes.ex g (h.fact ⟨hr,hv⟩))
theorem Bg(h:(wZ p s v).holds w F): ∃m g,g.map (·.1)=s.ring∧m.av=v∧(aI p s m g).holds w F:=by obtain⟨m,g,h⟩:=h;obtain⟨⟨hr,hv⟩,h⟩:=(nB _ _ _ _).1 h;exact⟨m,g,hr,hv,h⟩
theorem EW(h:Goes (wZ p s v) w F w'):Goes (aU p s) w F w':=h.mono fun F' h=>by obtain⟨m,g,hr,_,h⟩:=Bg h;exact⟨m,g,(nB _ _ _ _).2 ⟨hr,h⟩⟩
def Ol(p:Nat)(s':St)(v:Value)(w:World)(F:Ft)(e:Ending)(w':World):Prop:=e= .returned (.tuple #[])∧Goes (wZ p s' v) w F w'
theorem Qp{Gk:Ft}(hk:k<g.length)(hr:g.map (·.1)=s.ring)(az:(aI p s m g).holds w F)(Io:m.gv= .slice (some ⟨g1,off,none⟩) g.length cap)(hb:Below w.heap.size w w1)(Xq:(inA (g[k]'hk).2 (g[k]'hk).1.ids).holds w1 Gk)(bK:Goes (inA v ids) w1 Gk w2):Goes (wZ p {s with ring:=s.ring.set k ⟨(g[k]'hk).1.ten,ids⟩} m.av) w F (w2.setCell ⟨g1,off+k*2+1,none⟩ v):=by
 have h0:Goes (aI p s m g) w F w1:=(Goes.refl az).below hb;rw[qW p s m g k hk]at h0;have h1:=h0.part (cZ _ _ _ _ _) Xq bK;have h2:=h1.eq (bq _ _ _);obtain⟨G2,_,pw,_⟩:=h2.pieces;have Pq:=pw;rw[Io]at Pq;have h3:=h2.part (cZ _ _ _ _ _) pw (A':=rowA 176 2 m.gv g.length (flat eN (g.set k (⟨(g[k]'hk).1.ten,ids⟩,v)))) (w2:=w2.setCell ⟨g1,off+k*2+1,none⟩ v) (by have:=cu Pq (k*2+1) v (by omega);rw[j4 gU g k 1 hk (by omega) v (⟨(g[k]'hk).1.ten,ids⟩,v) rfl,<-Nat.add_assoc]at this;rw[Io];exact this)
 refine oO (s:={s with ring:=s.ring.set k ⟨(g[k]'hk).1.ten,ids⟩}) (m:=m) (g:=g.set k (⟨(g[k]'hk).1.ten,ids⟩,v)) (by rw[EU,hr]) rfl (h3.eq ?_);rw[kW];unfold rX;rw[kM (fun x:Ln×Value=>inA x.2 x.1.ids) g k hk,List.length_set];show _=aa (aa _ (aa (inA v ids) _)) (aa (iM p s m) _)
 ac_rfl
theorem MA(hk:k<g.length)(hr:g.map (·.1)=s.ring)(az:(aI p s m g).holds w F)(Io:m.gv= .slice (some ⟨g1,off,none⟩) g.length cap)(bK:Goes (inA v ids) w (fun _=>False) w2):Goes (wZ p {s with ring:=s.ring.set k ⟨(g[k]'hk).1.ten,ids⟩} m.av) w F (w2.setCell ⟨g1,off+k*2+1,none⟩ v):=by
 have h0:=(Goes.refl az).fresh bK;rw[qW p s m g k hk]at h0;have h2:=h0.eq (show _=aa (rowA 176 2 m.gv g.length (flat eN g)) (aa (inA v ids) (aa (inA (g[k]'hk).2 (g[k]'hk).1.ids) (aa (all (fun x=>inA x.2 x.1.ids) (g.eraseIdx k)) (aa (iM p s m) (aa (dO m.rv s.reqs) (aa (mz m.av s.af) (aa (inA m.wv s.wait) (aa (lz m.cv s.aq) (iB m.ov s.out)))))))))by ac_rfl);obtain⟨G2,_,pw,_⟩:=h2.pieces;have Pq:=pw;rw[Io]at Pq;have h3:=h2.part (cZ _ _ _ _ _) pw (A':=rowA 176 2 m.gv g.length (flat eN (g.set k (⟨(g[k]'hk).1.ten,ids⟩,v)))) (w2:=w2.setCell ⟨g1,off+k*2+1,none⟩ v) (by have:=cu Pq (k*2+1) v (by omega);rw[j4 gU g k 1 hk (by omega) v (⟨(g[k]'hk).1.ten,ids⟩,v) rfl,<-Nat.add_assoc]at this;rw[Io];exact this)
 refine oO (s:={s with ring:=s.ring.set k ⟨(g[k]'hk).1.ten,ids⟩}) (m:=m) (g:=g.set k (⟨(g[k]'hk).1.ten,ids⟩,v)) (by rw[EU,hr]) rfl (Goes.drop (B:=inA (g[k]'hk).2 (g[k]'hk).1.ids) (h3.eq ?_));rw[kW];unfold rX;rw[kM (fun x:Ln×Value=>inA x.2 x.1.ids) g k hk,List.length_set];show _=aa (aa (aa _ (aa (inA v ids) _)) (aa (iM p s m) _)) _
 ac_rfl
theorem Qq{Gr:Ft}(hr:g.map (·.1)=s.ring)(az:(aI p s m g).holds w F){l:Ln}{vr:Value}(h1:Goes (inA v l.ids) w (fun _=>False) w1)(kG:(rowA 176 2 m.gv g.length (flat eN g)).holds w1 Gr)(bK:Goes (rowA 176 2 vr (g.length+1) (flat eN g++ [.string ⟨l.ten.toArray⟩,v])) w1 Gr w2):Goes (wZ p {s with ring:=s.ring++ [l]} m.av) w F (w2.setCell ⟨p,8,none⟩ vr):=by
 have h0:=(Goes.refl az).fresh h1;rw[kW]at h0;have h2:=h0.eq (show _=aa (rowA 176 2 m.gv g.length (flat eN g)) (aa (inA v l.ids) (aa (all (fun x=>inA x.2 x.1.ids) g) (aa (iM p s m) (aa (dO m.rv s.reqs) (aa (mz m.av s.af) (aa (inA m.wv s.wait) (aa (lz m.cv s.aq) (iB m.ov s.out))))))))by unfold rX;ac_rfl);have h3:=h2.part (cZ _ _ _ _ _) kG bK;have h4:=(h3.eq (show _=aa (iM p s m) (aa (rowA 176 2 vr (g.length+1) (flat eN g++ [.string ⟨l.ten.toArray⟩,v])) (aa (inA v l.ids) (aa (all (fun x=>inA x.2 x.1.ids) g) (aa (dO m.rv s.reqs) (aa (mz m.av s.af) (aa (inA m.wv s.wait) (aa (lz m.cv s.aq) (iB m.ov s.out))))))))by ac_rfl)).store 8 vr;refine oO (s:={s with ring:=s.ring++ [l]}) (m:={m with gv:=vr}) (g:=g++ [(l,v)]) (by rw[aH,hr];rfl) rfl (h4.eq ?_);rw[kW];unfold rX;rw[all_append,oy,dL,aN];show aa (blk p (.cells (y9 {s with ring:=s.ring++ [l]} {m with gv:=vr}) 162 (0,0))) (aa (rowA 176 2 vr (g.length+1) (flat eN g++ [.string ⟨l.ten.toArray⟩,v])) _)=aa (aa (rowA 176 2 vr (g.length+1) (flat eN g++ [.string ⟨l.ten.toArray⟩,v])) (aa (all (fun x=>inA x.2 x.1.ids) g) (inA v l.ids))) (aa (blk p (.cells (y9 {s with ring:=s.ring++ [l]} {m with gv:=vr}) 162 (0,0))) (aa (dO m.rv s.reqs) (aa (mz m.av s.af) (aa (inA m.wv s.wait) (aa (lz m.cv s.aq) (iB m.ov s.out))))))
 ac_rfl
theorem Qo(hk:k<g.length)(az:(aI p s m g).holds w F)(Io:m.gv= .slice (some ⟨g1,off,none⟩) g.length cap): ∃Gk,(inA (g[k]'hk).2 (g[k]'hk).1.ids).holds w Gk∧ ¬Gk p∧ ¬Gk g1:=by rw[qW p s m g k hk]at az;obtain⟨G,H,ha,⟨X,Y,hx,⟨_,Z,_,⟨U,_,hu,_,_,eu⟩,_,ez⟩,_,ey⟩,d,_⟩:=az;refine⟨G,ha,fun h=>d p h ((ey p).2 (.inr ((ez p).2 (.inr ((eu p).2 (.inl ((hu.2 p).2 rfl))))))),fun h=>d g1 h ((ey g1).2 (.inl ?_))⟩;rw[Io]at hx;exact(dK hx).2
theorem Ra{G:Ft}(az:(aI p s m g).holds w F)(Io:m.gv=v)(hG:(rowA 176 2 v g.length (flat eN g)).holds w G): ¬G p:=by rw[kW]at az;obtain⟨X,Y,⟨X1,_,GU,_,_,ex⟩,⟨B,_,hb,_,_,ey⟩,d,_⟩:=az;rw[Io]at GU;rw[eO hG GU];intro h;exact d p ((ex p).2 (.inl h)) ((ey p).2 (.inl ((hb.2 p).2 rfl)))
theorem K6(w:World)(a b:Obj):((w.alloc a).alloc b).heap[w.heap.size+1]?=some b:=by have:=heap_alloc_new (w.alloc a) b;simpa using this
theorem one_row(w:World)(id:Int):(rowA 3 1 (.slice (some ⟨w.heap.size,0,none⟩) 1 1) 1 [.int .i64 id]).holds (w.alloc (.cells #[.int .i64 id] 3)).drew (fun b=>b=w.heap.size):=
 ⟨rfl, .inr ⟨w.heap.size,0,1, #[.int .i64 id],rfl,fun _=>Iff.rfl,heap_alloc_new w _,ae _,by unfold maxLen;omega,by simp,rfl⟩⟩
theorem Jg(l:List Int): ∀u∈flat mY l,u.oneCell'=true:=by intro u hu;obtain⟨a,_,h⟩:=List.mem_flatMap.1 hu;simp only[mY,List.mem_cons,List.mem_nil_iff,or_false]at h;subst h;rfl
theorem NC(hr:g.map (·.1)=s.ring)(hk:k<g.length)(hq:((g[k]'hk).1.ten==s.ten id)=true)(hi:k<=g.findIdx (fun x=>x.1.ten==s.ten id)):s.a6 id first={s with ring:=s.ring.set k ⟨(g[k]'hk).1.ten,if first then id::(g[k]'hk).1.ids else(g[k]'hk).1.ids++ [id]⟩}:=by
 have hkr:k<s.ring.length:=by rw[<-hr,bf];exact hk
 have e:s.ring[k]'hkr=(g[k]'hk).1:=by simp[<-hr]
 unfold St.a6;rw[if_pos (by rw[<-hr,List.any_map];exact tA hk hq)];have e2:aK (·.ten==s.ten id) (fun l:Ln=>{l with ids:=if first then id::l.ids else l.ids++ [id]}) s.ring=s.ring.set k ⟨(g[k]'hk).1.ten,if first then id::(g[k]'hk).1.ids else(g[k]'hk).1.ids++ [id]⟩:=by rw[jd (k:=k) hkr (by rw[e];exact hq) (by rw[<-hr,List.findIdx_map];exact hi),e]
 rw[e2]
theorem NB(hr:g.map (·.1)=s.ring)(hi:g.length<=g.findIdx (fun x=>x.1.ten==s.ten id)):s.a6 id first={s with ring:=s.ring++ [⟨s.ten id, [id]⟩]}:=by unfold St.a6;rw[if_neg];rw[<-hr,List.any_map];have:=qD hi;simp only[Function.comp_def];rw[this];simp
theorem RQ(p:Nat)(id:Int)(first:Bool)(s:St)(hv:Inv s)(hid:id∈s.ks.map (·.1))(m:MV)(g:List (Ln×Value))(w:World)(F:Ft)(hr:g.map (·.1)=s.ring)(az:(aI p s m g).holds w F)(hl:s.reqs.length<=16777215):Calls prog 109 #[.pointer (some ⟨p,0,none⟩), .int .i64 id, .bool first] w (Ol p (s.a6 id first) m.av w F):=by
 obtain⟨i0,hi,gI,dN,fS⟩:=info_parts B7;obtain⟨j0,hj,PY,PZ,P0⟩:=info_parts IH;have dU:=bR hr az;have f8:w.frozen? ⟨p,8,none⟩=false:=dU.frozen 8;obtain⟨ao,cap,G,Io,c8,HG,fT⟩:=vq dU;obtain⟨cU,b9,G2,c6,pn,C1⟩:=dU.reqs;have dc:=dU.lt;have sG:g.length<=16777215:=by have h1:=St.kg hv;rw[<-hr,bf]at h1;omega
 have AH:Hid (∀k (hk:k<g.length),(g[k]'hk).1.ids.length<=16777215):=fun k hk=>by have h1:=St.qP hv (l:=(g[k]'hk).1) (by rw[<-hr];exact aA.2 ⟨_,aY hk,rfl⟩);omega
 have WJ:Hid (∀k (hk:k<g.length),0<(g[k]'hk).1.ids.length):=fun k hk=>List.length_pos_iff.2 (hv.ring (g[k]'hk).1 (by rw[<-hr];exact aA.2 ⟨_,aY hk,rfl⟩)).1;have HM:Hid (MF w p s m g):=dU;have HO:=hide az;have HR:=hide hr;have NJ:=hide Io;obtain⟨j,PI⟩:=oM hid;obtain⟨eP,yF,_,XP⟩:=qh PI;obtain⟨g2,fl,rfl⟩:=C1.out (by omega);have d2:w.cell? ⟨g2,fl+j*7+2,none⟩=some (.string ⟨(s.reqs[j]'eP).ten.toArray⟩):=(fH pn.out eP).2.2.1;have lg:g2<w.heap.size:=(dK pn.out).1;have rA:Hid (∀w':World,w'.heap=w.heap->Calls prog 106 #[.pointer (some ⟨p,0,none⟩), .int .i64 id] w' fun e dV=>e= .returned (.int .i64 j)∧Below w'.heap.size w' dV):=fun w' he=>by have h:=mK p id s m g w' (dU.heap he) (by omega);rw[PI]at h;exact h
 rw[<-XP]at d2;have HT:Hid (s.ten id=s.ten id):=rfl;clear az hr dU hv hid PI yF XP Io;generalize ht:s.ten id=t at d2;have HTT:=hide ht;clear ht;go_enter func109,ntmps109;go_wp2_with fail;go_region_held3 (fun w'=>w'.cell? ⟨p,6,none⟩=some (.slice (some ⟨g2,fl,none⟩) s.reqs.length b9)∧w'.cell? ⟨g2,fl+j*7+2,none⟩=some (.string ⟨t.toArray⟩)) (go_keep)
    (first|(go_at_call 106;refine(rA.out w.drew rfl).mono ?_;rintro e w4⟨rfl,l9⟩;have k6:=(l9.cell (p:=⟨p,6,none⟩) dc).trans c6;have k2:=(l9.cell (p:=⟨g2,fl+j*7+2,none⟩) lg).trans d2))
 all_goals
  have pI:Below w.heap.size w w4:=(ah w.heap.size w).drew.trans l9;have c8':w4.cell? ⟨p,8,none⟩=some (.slice ao g.length cap):=by rw[pI.cell (p:=⟨p,8,none⟩) dc];exact c8
  have f8':w4.frozen? ⟨p,8,none⟩=false:=by rw[pI.frozen (p:=⟨p,8,none⟩) dc];exact f8
  have SC:Hid (∀(k:Nat) (hk:k<g.length),((g[k]'hk).1.ten==t)=true->k<=g.findIdx (fun x=>x.1.ten==t)->s.a6 id first={s with ring:=s.ring.set k ⟨(g[k]'hk).1.ten,if first then id::(g[k]'hk).1.ids else(g[k]'hk).1.ids++ [id]⟩}):=fun k hk h1 h2=>NC HR.out hk (by rw[HTT.out];exact h1) (by rw[HTT.out];exact h2);have JY:Hid (g.length<=g.findIdx (fun x=>x.1.ten==t)->s.a6 id first={s with ring:=s.ring++ [⟨t, [id]⟩]}):=fun h=>by rw[NB HR.out (by rw[HTT.out];exact h),HTT.out]
  have V6:p<w4.heap.size:=by have:=pI.size;omega
  clear k6 k2 c6 d2 rA HTT l9 HT;go_wp2
  go_loop [23] (fun i=> ∃k:Nat,k<=g.length∧i= .int .i64 k∧Hid (k<=g.findIdx (fun x=>x.1.ten==t))) (fun i=>g.length-(intOf i).toNat)
  case atStart=>exact⟨0,aJ _,rfl,aJ _⟩
  case round=>
   obtain⟨k,hk,rfl,HI⟩:=hrel;by_cases ay:k<g.length
   ·obtain⟨g1,off,rfl⟩:=fT.out (by omega);obtain⟨e0,e1⟩:=j9 (au HG.out pI) ay;have ef:=bV (au HG.out pI) (off+k*2+1);have rF:=(dK (au HG.out pI)).1;cases hq:((g[k]'ay).1.ten==t)
    ·have ig:Hid (k+1<=g.findIdx (fun x=>x.1.ten==t)):=eI ay hq HI.out;clear HI SC JY;go_wp2
     go_round
     case rel=>exact⟨k+1,by omega,by go_num,ig⟩
     case measure=>simp[intOf];omega
    ·have wT:=hq;have HW:=hide (SC.out k ay wT HI.out);obtain⟨Gk,Xq,GK,hGg⟩:=Qo ay HO.out NJ.out;obtain⟨aok,js,Si,HGk,abz⟩:=yL (au Xq pI);have dM:=AH.out k ay;have HGP:=hide GK;have HGG:=hide hGg;have fg:Hid (∀(w1 w2:World) (v:Value) (ids:List Int) (G1:Ft),Below w.heap.size w w1->(inA (g[k]'ay).2 (g[k]'ay).1.ids).holds w1 G1->Goes (inA v ids) w1 G1 w2->Goes (wZ p {s with ring:=s.ring.set k ⟨(g[k]'ay).1.ten,ids⟩} m.av) w F (w2.setCell ⟨g1,off+k*2+1,none⟩ v)):=fun w1 w2 v ids G1 hb h1 h2=>Qp ay HR.out HO.out NJ.out hb h1 h2;have HVK:=hide Si;have Vw:Hid (∀(w2:World) (v:Value) (ids:List Int),Goes (inA v ids) w (fun _=>False) w2->Goes (wZ p {s with ring:=s.ring.set k ⟨(g[k]'ay).1.ten,ids⟩} m.av) w F (w2.setCell ⟨g1,off+k*2+1,none⟩ v)):=fun w2 v ids h=>MA ay HR.out HO.out NJ.out h;rw[Si]at e1;clear Xq GK hGg wT HI SC JY Si;cases first
     ·go_wp2_with fail
      go_region_law (first
       |(refine fe _ (by rfl) _ _ _ (by rfl) 3 i0 _ 1 8 underlying36 hi gI dN fS rfl (by omega) (F:=Gk) _ (g[k]'ay).1.ids.length (flat mY (g[k]'ay).1.ids) (by rfl) (au (w:=w4) HGk.out ((ah _ _).alloc (ae _) _).drew) ⟨w4.heap.size,0,none⟩ 1 1 [.int .i64 id] (by rfl) (by rfl) (World.news_of_block (cs:= #[.int .i64 id]) (t:=3) (fr:=(0,0)) (heap_alloc_new w4 _)) (by simp[Value.oneCell']) (by unfold maxLen;omega) (by omega) ?_;intro GJ Hv w5 bK
         have hz:p<((w4.alloc (.cells #[.int .i64 id] 3)).drew).heap.size:=by simp;omega
         have hzg:g1<((w4.alloc (.cells #[.int .i64 id] 3)).drew).heap.size:=by simp;omega
         have k8:w5.cell? ⟨p,8,none⟩=some (.slice (some ⟨g1,off,none⟩) g.length cap):=by rw[bK.only.cell (p:=⟨p,8,none⟩) hz HGP.out];simpa[World.cell?_alloc_past,V6]using c8'
         have k1:w5.cell? ⟨g1,off+k*2+1,none⟩=some (.slice aok (g[k]'ay).1.ids.length js):=by rw[bK.only.cell (p:=⟨g1,off+k*2+1,none⟩) hzg HGG.out];simpa[World.cell?_alloc_past,rF]using e1
         have kf:w5.frozen? ⟨g1,off+k*2+1,none⟩=false:=by rw[bK.only.frozen (p:=⟨g1,off+k*2+1,none⟩) hzg HGG.out];simpa[World.frozen?_alloc_past,rF]using ef))
      all_goals
       have HX:Hid (Ol p (s.a6 id false) m.av w F (.returned (.tuple #[])) (w5.setCell ⟨g1,off+k*2+1,none⟩ (.slice GJ ((g[k]'ay).1.ids.length+1) Hv))):=by
        refine⟨rfl, ?_⟩;rw[HW.out];refine fg.out _ w5 _ ((g[k]'ay).1.ids++ [id]) Gk ((pI.alloc pI.size (.cells #[.int .i64 id] 3)).drew) ?_ ?_
        ·rw[HVK.out];exact au (w:=w4) HGk.out ((ah _ _).alloc (ae _) _).drew
        ·unfold inA;rw[dL,aN];exact bK
       clear fg HW bK k8 k1 kf;go_wp2;go_end0;exact HX.out
     ·have j7:0<(g[k]'ay).1.ids.length:=WJ.out k ay;obtain⟨gk,mZ,rfl⟩:=abz.out j7;have ZY:Hid (∀j u,(flat mY (g[k]'ay).1.ids)[j]?=some u->w4.cell? ((⟨gk,mZ,none⟩:Addr).add j)=some u):=by
       have h:=il HGk.out 0 (g[k]'ay).1.ids.length (by omega);rw[Nat.zero_mul,Nat.add_zero,List.drop_zero,List.take_of_length_le (by rw[dE yM];exact ae _)]at h;exact h
      have XH:gk<w4.heap.size:=(dK HGk.out).1;have WK:Hid (∀j u,(flat mY (g[k]'ay).1.ids)[j]?=some u->(w4.alloc (.cells #[.int .i64 id] 3)).drew.cell? ((⟨gk,mZ,none⟩:Addr).add j)=some u):=fun j u h=>by rw[(((ah w4.heap.size w4).alloc (ae _) _).drew).cell (p:=(⟨gk,mZ,none⟩:Addr).add j) (by rw[Addr.add_lit];exact XH)];exact ZY.out j u h
      go_wp2_with fail
      go_region_law (first
       |(refine fe _ (by rfl) _ _ _ (by rfl) 3 i0 _ 1 8 underlying36 hi gI dN fS rfl (by omega) (F:=fun b=>b=w4.heap.size) _ 1 [.int .i64 id] (by rfl) (one_row w4 id) ⟨gk,mZ,none⟩ (g[k]'ay).1.ids.length js (flat mY (g[k]'ay).1.ids) (by rfl) (by rw[dE yM]) WK.out (Jg _) (by unfold maxLen;omega) (by omega) ?_;intro GJ Hv w5 bK
         have hz:p<((w4.alloc (.cells #[.int .i64 id] 3)).drew).heap.size:=by simp;omega
         have hzg:g1<((w4.alloc (.cells #[.int .i64 id] 3)).drew).heap.size:=by simp;omega
         have k8:w5.cell? ⟨p,8,none⟩=some (.slice (some ⟨g1,off,none⟩) g.length cap):=by rw[bK.only.cell (p:=⟨p,8,none⟩) hz (by show¬p=_;omega)];simpa[World.cell?_alloc_past,V6]using c8'
         have k1:w5.cell? ⟨g1,off+k*2+1,none⟩=some (.slice (some ⟨gk,mZ,none⟩) (g[k]'ay).1.ids.length js):=by rw[bK.only.cell (p:=⟨g1,off+k*2+1,none⟩) hzg (by show¬g1=_;omega)];simpa[World.cell?_alloc_past,rF]using e1
         have kf:w5.frozen? ⟨g1,off+k*2+1,none⟩=false:=by rw[bK.only.frozen (p:=⟨g1,off+k*2+1,none⟩) hzg (by show¬g1=_;omega)];simpa[World.frozen?_alloc_past,rF]using ef))
      all_goals
       have HX:Hid (Ol p (s.a6 id true) m.av w F (.returned (.tuple #[])) (w5.setCell ⟨g1,off+k*2+1,none⟩ (.slice GJ (1+(g[k]'ay).1.ids.length) Hv))):=by
        refine⟨rfl, ?_⟩;rw[HW.out];refine Vw.out w5 _ (id::(g[k]'ay).1.ids) ?_;have h1:Goes (rowA 3 1 (.slice (some ⟨w4.heap.size,0,none⟩) 1 1) 1 [.int .i64 id]) w (fun _=>False) (w4.alloc (.cells #[.int .i64 id] 3)).drew:=
         ⟨_,one_row w4 id,((((Only.refl _ w).below pI).alloc _).drew),fun b h=> .inr (by have:=pI.size;omega)⟩
        refine(h1.trans fun F' dR=>by rw[eO dR (one_row w4 id)];exact bK).eq ?_;unfold inA;rw[List.length_cons,Nat.add_comm 1];rfl
       clear fg Vw HW bK k8 k1 kf;go_wp2;go_end0;exact HX.out
   ·have HW:=hide (JY.out (by have:=HI.out;omega));obtain rfl:k=g.length:=by omega
    clear HI SC JY;have R3:=hide (au HG.out pI);go_wp2_with (at_builtin;go_must(refine aC _ rfl _ _ 159 rfl 176 j0 (.agg #[.string ⟨#[]⟩, .slice none 0 0]) 2 40 underlying159 hj PY PZ P0 rfl (by decide) (F:=G) _ g.length (flat eN g) rfl (au (au R3.out ((ah _ _).alloc (ae _) _)) ((ah _ _).alloc (ae _) _)) ⟨w4.heap.size+1,0,none⟩ 1 1 [.string ⟨t.toArray⟩, .slice (some ⟨w4.heap.size,0,none⟩) 1 1] rfl rfl (World.news_of_block (cs:= #[.string ⟨t.toArray⟩, .slice (some ⟨w4.heap.size,0,none⟩) 1 1]) (t:=176) (fr:=(0,0)) (K6 w4 _ _)) (by simp[Value.oneCell']) (by unfold maxLen;omega) (by omega) ?main))
    case main=>
     intro GJ Hv w5 bK;have Ua: ¬G p:=Ra HO.out NJ.out HG.out;have hz:p<((w4.alloc (.cells #[.int .i64 id] 3)).alloc (.cells #[.string ⟨t.toArray⟩, .slice (some ⟨w4.heap.size,0,none⟩) 1 1] 176)).heap.size:=by simp;omega
     have k8:w5.cell? ⟨p,8,none⟩=some (.slice ao g.length cap):=by rw[bK.only.cell (p:=⟨p,8,none⟩) hz Ua,(((ah w4.heap.size w4).alloc (ae _) _).alloc (by simp) _).cell (p:=⟨p,8,none⟩) V6];exact c8'
     have kf:w5.frozen? ⟨p,8,none⟩=false:=by rw[bK.only.frozen (p:=⟨p,8,none⟩) hz Ua,(((ah w4.heap.size w4).alloc (ae _) _).alloc (by simp) _).frozen (p:=⟨p,8,none⟩) V6];exact f8'
     have HX:Hid (Ol p (s.a6 id first) m.av w F (.returned (.tuple #[])) (w5.setCell ⟨p,8,none⟩ (.slice GJ (g.length+1) Hv))):=by
      refine⟨rfl, ?_⟩;rw[HW.out];refine Qq (l:=⟨t, [id]⟩) HR.out HO.out (v:= .slice (some ⟨w4.heap.size,0,none⟩) 1 1) (w1:=(w4.alloc (.cells #[.int .i64 id] 3)).alloc (.cells #[.string ⟨t.toArray⟩, .slice (some ⟨w4.heap.size,0,none⟩) 1 1] 176)) (Gr:=G) ?_ ?_ bK
      ·refine Goes.dt ?_ _;exact⟨_,one_row w4 id,((Only.refl _ w).below pI).alloc _,fun b h=> .inr (by have:=pI.size;omega)⟩
      ·rw[NJ.out];exact au (au R3.out ((ah _ _).alloc (ae _) _)) ((ah _ _).alloc (ae _) _)
     clear HW bK Ua;go_wp2;go_end0;exact HX.out
theorem nX(p:Nat)(id:Int)(first:Bool)(s:St)(hv:Inv s)(hid:id∈s.ks.map (·.1))(w:World)(F:Ft)(hm:(aU p s).holds w F)(hl:s.reqs.length<=16777215):Calls prog 109 #[.pointer (some ⟨p,0,none⟩), .int .i64 id, .bool first] w (fZ p (s.a6 id first) w F):=by obtain⟨m,g,hr,az⟩:=bD hm;refine(RQ p id first s hv hid m g w F hr az hl).mono ?_;rintro e w'⟨rfl,hg⟩;exact⟨rfl,EW hg⟩
