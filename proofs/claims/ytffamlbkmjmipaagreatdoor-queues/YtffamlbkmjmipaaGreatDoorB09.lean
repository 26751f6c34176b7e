import Derived.Test.YtffamlbkmjmipaaGreatDoorB07
import Derived.Test.YtffamlbkmjmipaaGreatDoorB08
import Derived.OwnWalk
set_option maxHeartbeats 8000000
set_option maxRecDepth 100000
namespace Go.Proofs.YtffamlbkmjmipaaGreatDoor
open _root_.Go.Proofs.Tryz
section
open Go.RowKit aM
namespace Goes
variable{A B:aM}{w w1 w2:World}{F:Ft}
theorem toBelow(h:Goes A w (fun _=>False) w1):Below w.heap.size w w1:=by obtain⟨_,_,o,_⟩:=h;exact o.toBelow (fun _ h=>h.elim) (ae _)
theorem fresh(h:Goes A w F w1)(h':Goes B w1 (fun _=>False) w2):Goes (aa B A) w F w2:=by
 refine h.trans fun F' ha=> ?_;have:=frame (A:=emp) (A':=B) (B:=A) (w':=w2) ((BJ A).symm▸ha) (fun G hG _=> ?_)
 ·exact this
 ·obtain⟨G',hb,o,n⟩:=h';have e:G=fun _=>False:=funext fun k=>propext ⟨fun h=>hG k h,False.elim⟩;subst e;exact⟨G',hb,o,n⟩
theorem only(h:Goes A w F w1):Only F w w1:=by obtain⟨_,_,o,_⟩:=h;exact o
theorem facts(h:Goes A w F w1): ∃F',A.holds w1 F':=by obtain⟨F',ha,_⟩:=h;exact⟨F',ha⟩
theorem fact{φ:Prop}(h:Goes A w F w1)(hφ:φ):Goes (aa (aM.fact φ) A) w F w1:=h.mono fun F' ha=>(nB φ A w1 F').2 ⟨hφ,ha⟩
theorem ex{α:Type}{A:α->aM}(x:α)(h:Goes (A x) w F w1):Goes (aM.ex A) w F w1:=h.mono fun _ ha=>⟨x,ha⟩
end Goes
end
namespace Mr
open Go.RowKit aM Mc
attribute [local go_sem] aL.ag
attribute [local go_sem] aL.ar
theorem P3:(prog.info? 51).map (fun i=>(i.zero,i.size,i.bytes))=some (some (.agg #[.int .i64 0, .string ⟨#[]⟩]),2,24):=by kernel_rfl
theorem infoAt:(prog.info? 170).map (fun i=>(i.zero,i.size,i.bytes))=some (some (.agg #[.int .i64 0, .int .i64 0, .int .i64 0, .int .i64 0, .int .i64 0]),5,40):=by kernel_rfl
theorem P8:(prog.info? 174).map (fun i=>(i.zero,i.size,i.bytes))=some (some (.agg #[.int .i64 0, .int .i64 0, .string ⟨#[]⟩, .string ⟨#[]⟩, .int .i64 0, .int .i64 0, .bool false]),7,72):=by kernel_rfl
theorem IH:(prog.info? 176).map (fun i=>(i.zero,i.size,i.bytes))=some (some (.agg #[.string ⟨#[]⟩, .slice none 0 0]),2,40):=by kernel_rfl
theorem P1:(prog.info? 166).map (fun i=>(i.zero,i.size,i.bytes))=some (some (.agg #[.int .i64 0, .string ⟨#[]⟩, .bool false, .bool false]),4,32):=by kernel_rfl
theorem B7:(prog.info? 3).map (fun i=>(i.zero,i.size,i.bytes))=some (some (.int .i64 0),1,8):=by kernel_rfl
def fZ(p:Nat)(s':St)(w:World)(F:Ft)(e:Ending)(w':World):Prop:=e= .returned (.tuple #[])∧Goes (aU p s') w F w'
theorem bD{p:Nat}{s:St}{w:World}{F:Ft}(h:(aU p s).holds w F): ∃m g,g.map (·.1)=s.ring∧(aI p s m g).holds w F:=by obtain⟨m,g,h⟩:=h;obtain⟨hr,h⟩:=(nB _ _ _ _).1 h;exact⟨m,g,hr,h⟩
theorem cI{p:Nat}{s:St}{m:MV}{g:List (Ln×Value)}{w w':World}{F:Ft}(hr:g.map (·.1)=s.ring)(h:Goes (aI p s m g) w F w'):Goes (aU p s) w F w':=
 Goes.ex m (Goes.ex g (h.fact hr))
theorem KX(p:Nat)(s:St)(m:MV)(g:List (Ln×Value)):aI p s m g=aa (iB m.ov s.out) (aa (iM p s m) (aa (dO m.rv s.reqs) (aa (mz m.av s.af) (aa (rX m.gv g) (aa (inA m.wv s.wait) (lz m.cv s.aq)))))):=by unfold aI;ac_rfl
theorem oQ(p:Nat)(s:St)(m:MV)(g:List (Ln×Value)):aI p s m g=aa (mz m.av s.af) (aa (iM p s m) (aa (dO m.rv s.reqs) (aa (rX m.gv g) (aa (inA m.wv s.wait) (aa (lz m.cv s.aq) (iB m.ov s.out)))))):=by unfold aI;ac_rfl
theorem oT(p:Nat)(s:St)(m:MV)(g:List (Ln×Value)):aI p s m g=aa (dO m.rv s.reqs) (aa (iM p s m) (aa (mz m.av s.af) (aa (rX m.gv g) (aa (inA m.wv s.wait) (aa (lz m.cv s.aq) (iB m.ov s.out)))))):=by unfold aI;ac_rfl
theorem kW(p:Nat)(s:St)(m:MV)(g:List (Ln×Value)):aI p s m g=aa (rX m.gv g) (aa (iM p s m) (aa (dO m.rv s.reqs) (aa (mz m.av s.af) (aa (inA m.wv s.wait) (aa (lz m.cv s.aq) (iB m.ov s.out)))))):=by unfold aI;ac_rfl
theorem oU(p:Nat)(s:St)(m:MV)(g:List (Ln×Value)):aI p s m g=aa (inA m.wv s.wait) (aa (iM p s m) (aa (dO m.rv s.reqs) (aa (mz m.av s.af) (aa (rX m.gv g) (aa (lz m.cv s.aq) (iB m.ov s.out)))))):=by unfold aI;ac_rfl
theorem kV(p:Nat)(s:St)(m:MV)(g:List (Ln×Value)):aI p s m g=aa (lz m.cv s.aq) (aa (iM p s m) (aa (dO m.rv s.reqs) (aa (mz m.av s.af) (aa (rX m.gv g) (aa (inA m.wv s.wait) (iB m.ov s.out)))))):=by unfold aI;ac_rfl
theorem eO{e:TypeId}{size n:Nat}{v:Value}{xs:List Value}{w:World}{G H:Ft}(h1:(rowA e size v n xs).holds w G)(h2:(rowA e size v n xs).holds w H):G=H:=by
 rcases h1.2 with⟨a,b,c⟩|⟨g,off,cap,cur,a,b,_⟩
 ·rcases h2.2 with⟨a',b',c'⟩|⟨g',rH,cM,OZ,a',b',_⟩
  ·exact funext fun k=>propext ⟨fun h=>(c k h).elim,fun h=>(c' k h).elim⟩
  ·rw[a]at a';cases a'
 ·rcases h2.2 with⟨a',b',c'⟩|⟨g',rH,cM,OZ,a',b',_⟩
  ·rw[a]at a';cases a'
  ·rw[a]at a';cases a';exact funext fun k=>propext ((b k).trans (b' k).symm)
def xP(A:aM):Prop:= ∀(w:World) (G H:Ft),A.holds w G->A.holds w H->G=H
theorem cZ(e:TypeId)(size:Nat)(v:Value)(n:Nat)(xs:List Value):xP (rowA e size v n xs):=fun _ _ _=>eO
theorem Rn(p:Nat)(o:Obj):xP (blk p o):=fun _ _ _ h1 h2=>funext fun k=>propext ((h1.2 k).trans (h2.2 k).symm)
theorem Ro:xP emp:=fun _ _ _ h1 h2=>funext fun k=>propext ⟨fun h=>(h1 k h).elim,fun h=>(h2 k h).elim⟩
theorem kh{A B:aM}(ha:xP A)(hb:xP B):xP (aa A B):=by rintro w G H⟨X,Y,hx,hy,_,e⟩⟨X',Y',mH,Mp,_,e'⟩;have e1:=ha w X X' hx mH;have e2:=hb w Y Y' hy Mp;subst e1 e2;exact funext fun k=>propext ((e k).trans (e' k).symm)
theorem FT{α:Type}{A:α->aM}(h: ∀x,xP (A x)): ∀l:List α,xP (all A l)
 | []=>Ro
 |x::l=>kh (h x) (FT h l)
theorem Nh(p:Nat)(s:St)(m:MV)(g:List (Ln×Value)):xP (aI p s m g):=
 kh (Rn _ _) (kh (cZ _ _ _ _ _) (kh (cZ _ _ _ _ _) (kh (kh (cZ _ _ _ _ _) (FT (fun _=>cZ _ _ _ _ _) _)) (kh (cZ _ _ _ _ _) (kh (cZ _ _ _ _ _) (cZ _ _ _ _ _))))))
theorem bF{p:Nat}{s:St}{m:MV}{g:List (Ln×Value)}{w:World}{G H:Ft}(h1:(aI p s m g).holds w G)(h2:(aI p s m g).holds w H):G=H:=Nh p s m g w G H h1 h2
def Said(p:Nat)(s:St)(m:MV)(x:Int×Bs)(w:World)(F:Ft)(e:Ending)(w':World):Prop:=e= .returned (.tuple #[])∧ ∃nk,Goes (aa (iM p s {m with ov:=nk}) (iB nk (s.out++ [x]))) w F w'
theorem U8{p:Nat}{s:St}{m:MV}{w w2:World}{F:Ft}{v:Value}{x:Int×Bs}(az:(aa (iM p s m) (iB m.ov s.out)).holds w F)(h: ∀G,(iB m.ov s.out).holds w G->Goes (rowA 51 2 v (s.out.length+1) (flat Fe s.out++Fe x)) w G w2):Goes (aa (iM p s {m with ov:=v}) (iB v (s.out++ [x]))) w F (w2.setCell ⟨p,11,none⟩ v):=by
 rw[cA]at az;have h1:Goes (aa (iB v (s.out++ [x])) (iM p s m)) w F w2:=
  Goes.frame az (fun G hG _=>(h G hG).eq (by unfold iB;rw[dL,aN];rfl))
 exact(h1.eq (cA _ _)).store 11 v
theorem Rj(p:Nat)(c:Int)(t:Bs)(s:St)(m:MV)(w:World)(F:Ft)(az:(aa (iM p s m) (iB m.ov s.out)).holds w F)(hlen:s.out.length<=33554432)(hs:t.length<=1048576):Calls prog 102 #[.pointer (some ⟨p,0,none⟩), .int .i64 c, .string ⟨t.toArray⟩] w (Said p s m (c,t) w F):=by
 obtain⟨i0,hi,gI,dN,fS⟩:=info_parts P3;have cP:=(dC az).1;have c11:w.cell? ⟨p,11,none⟩=some m.ov:=bg cP;have f11:w.frozen? ⟨p,11,none⟩=false:=oz cP;have dc:p<w.heap.size:=(cT.1 cP).1;obtain⟨G,hG,GK⟩: ∃G,(iB m.ov s.out).holds w G∧ ¬G p:=by obtain⟨G,H,ha,hb,d,e⟩:=az;exact⟨H,hb,d p ((ha.2 p).2 rfl)⟩
 have HO:Hid ((aa (iM p s m) (iB m.ov s.out)).holds w F):=az;have HG:Hid ((iB m.ov s.out).holds w G):=hG;have HP:Hid (¬G p):=GK;have pC:Hid (∀w:World,Calls prog 58 #[.string ⟨t.toArray⟩] w fun e w'=>e= .returned (.string ⟨(aL.line t).toArray⟩)∧Below w.heap.size w w'):=fun w=>aL.lX ⟨t.toArray⟩ w hs;have WR:Hid (aL.line t=aL.line t):=rfl;clear az hG GK cP;go_enter func102,ntmps102;go_wp2_with fail
 go_region_law (first
   |(refine fe _ (by rfl) _ _ _ (by rfl) 51 i0 _ 2 24 underlying32 hi gI dN fS rfl (by omega) (F:=G) m.ov s.out.length (flat Fe s.out) (by rfl) (au (w:=w1) (au (w:=w.drew) (w':=w1) HG.out hb1) ((ah _ _).alloc (ae _) _)) ⟨w1.heap.size,0,none⟩ 1 1 [.int .i64 c, .string ⟨(aL.line t).toArray⟩] (by rfl) (by rfl) (World.news_of_block (cs:= #[.int .i64 c, .string ⟨(aL.line t).toArray⟩]) (t:=51) (fr:=(0,0)) (heap_alloc_new w1 _)) (by simp[Value.oneCell']) (by unfold maxLen;omega) (by omega) ?_;intro cU gz w2 bK;have Kw:w2.cell? ⟨p,11,none⟩=some m.ov:=(by rw[bK.only.cell (p:=⟨p,11,none⟩) (by simp;omega) HP.out,World.cell?_alloc_past _ _ _ aa4];exact pX);have A9:w2.frozen? ⟨p,11,none⟩=false:=(by rw[bK.only.frozen (p:=⟨p,11,none⟩) (by simp;omega) HP.out,World.frozen?_alloc_past _ _ _ aa4];exact CW))
   |(go_simp;go_at_call 58;refine(pC.out _).mono ?_;rintro e w1⟨rfl,hb1⟩;have aa4:p<w1.heap.size:=bP dc hb1.size;have pX:w1.cell? ⟨p,11,none⟩=some m.ov:=(by rw[hb1.cell (p:=⟨p,11,none⟩) dc];exact c11);have CW:w1.frozen? ⟨p,11,none⟩=false:=(by rw[hb1.frozen (p:=⟨p,11,none⟩) dc];exact f11)))
 all_goals go_end0;refine⟨rfl,_,U8 (x:=(c,t)) HO.out (fun G' zF=> ?_)⟩;have e:G'=G:=eO zF HG.out;subst e;exact(((Goes.refl zF).drew.below hb1).dt _).trans (fun F' dR=>by rw[eO dR (au (au (w:=w.drew) (w':=w1) HG.out hb1) ((ah _ _).alloc (ae _) _))];exact bK)
def Qv(s:St)(m:MV)(g:List (Ln×Value)):aM:=aa (dO m.rv s.reqs) (aa (mz m.av s.af) (aa (rX m.gv g) (aa (inA m.wv s.wait) (lz m.cv s.aq))))
theorem Bk(p:Nat)(s:St)(m:MV)(g:List (Ln×Value)):aI p s m g=aa (aa (iM p s m) (iB m.ov s.out)) (Qv s m g):=by unfold aI Qv;ac_rfl
theorem lW(p:Nat)(c:Int)(t:Bs)(s:St)(m:MV)(g:List (Ln×Value))(w:World)(F:Ft)(h:(aI p s m g).holds w F)(hlen:s.out.length<=33554432)(hs:t.length<=1048576):Calls prog 102 #[.pointer (some ⟨p,0,none⟩), .int .i64 c, .string ⟨t.toArray⟩] w fun e w'=>e= .returned (.tuple #[])∧ ∃nk,Goes (aI p (s.say c t) {m with ov:=nk} g) w F w':=by
 rw[Bk]at h;obtain⟨G,H,ha,hb,d,e⟩:=h;refine(Rj p c t s m w G ha hlen hs).mono ?_;rintro e' w'⟨rfl,nk,hg⟩;refine⟨rfl,nk, ?_⟩;rw[Bk];exact Goes.frame (A:=aa (iM p s m) (iB m.ov s.out)) (B:=Qv s m g) ⟨G,H,ha,hb,d,e⟩ (fun G' zF V8=>by
  have:G'=G:=by obtain⟨X,Y,hx,hy,_,exy⟩:=ha;obtain⟨X',Y',mH,Mp,_,ab4⟩:=zF;have e1:Y'=Y:=eO Mp hy;funext k;rw[propext (exy k),propext (ab4 k),e1,propext (hx.2 k),propext (mH.2 k)]
  subst this;exact hg)
theorem mL(p:Nat)(c:Int)(t:Bs)(s:St)(w:World)(F:Ft)(hm:(aU p s).holds w F)(hlen:s.out.length<=33554432)(hs:t.length<=1048576):Calls prog 102 #[.pointer (some ⟨p,0,none⟩), .int .i64 c, .string ⟨t.toArray⟩] w (fZ p (s.say c t) w F):=by obtain⟨m,g,hr,az⟩:=bD hm;refine(lW p c t s m g w F az hlen hs).mono ?_;rintro e w'⟨rfl,nk,hg⟩;exact⟨rfl,cI (s:=s.say c t) hr hg⟩
end Mr
namespace Mr
open Go.RowKit aM Mc
attribute [local go_sem] aL.ag aL.ar
variable{w:World}{p k:Nat}{s:St}{m:MV}{g:List (Ln×Value)}
theorem MF.RR(hm:MF w p s m g): ∃ao cap G,w.cell? ⟨p,9,none⟩=some (.slice ao s.wait.length cap)∧Hid ((inA (.slice ao s.wait.length cap) s.wait).holds w G)∧Hid (0<s.wait.length-> ∃g off,ao=some ⟨g,off,none⟩):=by have c7:w.cell? ⟨p,9,none⟩=some m.wv:=hm.cell 9;obtain⟨G,hG⟩:=hm.wt;obtain⟨ao,cap,hv,dF,bI⟩:=bO hG;rw[hv]at hG c7;exact⟨ao,cap,G,c7,hG,bI⟩
theorem mF{α:Type}{p:α->Bool}{l:List α}(hk:k<l.length):(l.take (k+1)).filter p=(l.take k).filter p++if p (l[k]'hk)then [l[k]'hk]else []:=by rw[fp hk,List.filter_append];congr 1;by_cases h:p l[k]=true<;>simp[h]
theorem filter_le{α:Type}{p:α->Bool}{l:List α}:((l.take k).filter p).length<=l.length:=by refine aw (List.length_filter_le ..) ?_;rw[List.length_take];exact Nat.min_le_right ..
theorem YW{w2:World}{F:Ft}{v:Value}{l:List Int}(hr:g.map (·.1)=s.ring)(az:(aI p s m g).holds w F)(h:Goes (inA v l) w (fun _=>False) w2):Goes (aU p {s with wait:=l}) w F (w2.setCell ⟨p,9,none⟩ v):=by
 have h1:Goes (aa (inA v l) (aI p s m g)) w F w2:=(Goes.refl az).fresh h;rw[oU]at h1;have h2:=(h1.eq (show _=aa (iM p s m) (aa (inA v l) (aa (inA m.wv s.wait) (aa (dO m.rv s.reqs) (aa (mz m.av s.af) (aa (rX m.gv g) (aa (lz m.cv s.aq) (iB m.ov s.out)))))))by ac_rfl)).store 9 v;have h3:Goes (aa (aI p {s with wait:=l} {m with wv:=v} g) (inA m.wv s.wait)) w F (w2.setCell ⟨p,9,none⟩ v):=h2.eq (by
  rw[oU];show aa (blk p (.cells (y9 {s with wait:=l} {m with wv:=v}) 162 (0,0))) _=aa (aa (inA v l) (aa (blk p (.cells (y9 {s with wait:=l} {m with wv:=v}) 162 (0,0))) _)) _
  ac_rfl)
 exact cI (m:={m with wv:=v}) (g:=g) hr h3.drop
theorem Eo(p:Nat)(c:Int)(s:St)(w:World)(F:Ft)(hm:(aU p s).holds w F)(hl:s.wait.length<=16777216):Calls prog 111 #[.pointer (some ⟨p,0,none⟩), .int .i64 c] w (fZ p (s.idle c) w F):=by
 obtain⟨i0,hi,gI,dN,fS⟩:=info_parts B7;obtain⟨m,g,hr,az⟩:=bD hm;have dU:=bR hr az;have f9:w.frozen? ⟨p,9,none⟩=false:=dU.frozen 9;obtain⟨ao,cap,G,c9,HG,fT⟩:=dU.RR;have dc:=dU.lt;have HO:Hid ((aI p s m g).holds w F):=az;have HR:Hid (g.map (·.1)=s.ring):=hr;clear hm az hr dU;have HU:Hid (∀v w2,Goes (inA v (s.wait.filter (· !=c))) w (fun _=>False) w2->fZ p (s.idle c) w F (.returned (.tuple #[])) (w2.setCell ⟨p,9,none⟩ v)):=fun v w2 h=>⟨rfl,YW HR.out HO.out h⟩;clear HO HR;generalize s.wait=l at*;go_enter func111,ntmps111;go_wp2;go_loopw [4,12] (fun lv i wr=> ∃k:Nat,k<=l.length∧i= .int .i64 k∧(∃n1 dP eQ,lv= .slice dP n1 eQ∧n1<=16777216∧Hid (n1=((l.take k).filter (· !=c)).length∧Goes (inA (.slice dP n1 eQ) ((l.take k).filter (· !=c))) w (fun _=>False) wr))) (fun _ i _=>l.length-(intOf i).toNat)
 case atStart=>exact⟨0,aJ _,rfl,⟨0,none,0,rfl,by omega,by show(_∧_);exact⟨by simp,Goes.refl (dS _ _ _ (fun _ h=>h))⟩⟩⟩
 case round=>
  obtain⟨k,hk,rfl,⟨n1,dP,eQ,rfl,qb,HN⟩⟩:=hrel;have hB:=HN.out.2.toBelow;have cg:=hB.size;by_cases ay:k<l.length
  ·obtain⟨g',off,rfl⟩:=fT.out (by omega);have c0:=qQ (au HG.out hB) ay;cases hq:((l[k]'ay) !=c)
   ·have ig:Hid (n1=((l.take (k+1)).filter (· !=c)).length∧Goes (inA (.slice dP n1 eQ) ((l.take (k+1)).filter (· !=c))) w (fun _=>False) wr):=by show(_∧_);rw[mF ay,hq];simpa using HN.out
    clear HN;go_wp2;go_roundw
    case rel=>exact⟨k+1,by omega,by go_num,⟨n1,dP,eQ,rfl,qb,ig⟩⟩
    case measure=>simp[intOf];omega
   ·obtain⟨Gr,kG,Jf,GZ⟩:=HN.out.2;have cC:=HN.out.1;have pH:(rowA 3 1 (.slice dP n1 eQ) n1 (flat mY ((l.take k).filter (· !=c)))).holds wr Gr:=by unfold inA at kG;rw[<-cC]at kG;exact kG
    have fy:Hid ((rowA 3 1 (.slice dP n1 eQ) n1 (flat mY ((l.take k).filter (· !=c)))).holds wr Gr):=pH;have WJ:Hid (n1=((l.take k).filter (· !=c)).length):=cC;clear kG pH cC;go_wp2_with (at_builtin;go_must(refine aC _ rfl _ _ 36 rfl 3 i0 (.int .i64 0) 1 8 underlying36 hi gI dN fS rfl (by decide) (F:=Gr) _ n1 (flat mY ((l.take k).filter (· !=c))) rfl (au fy.out ((ah _ _).alloc (ae _) _)) ⟨wr.heap.size,0,none⟩ 1 1 [.int .i64 (l[k]'ay)] rfl rfl (World.news_of_block (cs:= #[.int .i64 (l[k]'ay)]) (t:=3) (fr:=(0,0)) (heap_alloc_new wr _)) (by simp[Value.oneCell']) (by unfold maxLen;omega) (by omega) ?main))
    case main=>
     intro cU gz w2 bK;have ig:Hid (n1+1=((l.take (k+1)).filter (· !=c)).length∧Goes (inA (.slice cU (n1+1) gz) ((l.take (k+1)).filter (· !=c))) w (fun _=>False) w2):=by
      show(_∧_);rw[mF ay,hq];have e1:n1+1=(((l.take k).filter (· !=c))++ [l[k]'ay]).length:=by rw[aN,<-WJ.out];rfl
      refine⟨e1, ?_⟩;have h1:Goes (rowA 3 1 (.slice dP n1 eQ) n1 (flat mY ((l.take k).filter (· !=c)))) w (fun _=>False) (wr.alloc (.cells #[.int .i64 (l[k]'ay)] 3)):=Goes.dt ⟨Gr,fy.out,Jf,GZ⟩ _;refine(h1.trans fun F' dR=> ?_).eq (A:=rowA 3 1 (.slice cU (n1+1) gz) (n1+1) (flat mY ((l.take k).filter (· !=c))++ [.int .i64 (l[k]'ay)])) ?_
      ·rw[eO dR (au fy.out ((ah _ _).alloc (ae _) _))];exact bK
      ·unfold inA;rw[if_pos rfl,<-e1,dL];rfl
     have sH:n1+1<=16777216:=by have h1:=ig.out.1;have h2:=filter_le (l:=l) (k:=k+1) (p:=(· !=c));omega
     clear bK HN;go_wp2;go_roundw
     case rel=>exact⟨k+1,by omega,by go_num,⟨n1+1,cU,gz,by first|rfl|go_num,sH,ig⟩⟩
     case measure=>simp[intOf];omega
  ·obtain rfl:k=l.length:=by omega
   have HX:Hid (Goes (inA (.slice dP n1 eQ) (l.filter (· !=c))) w (fun _=>False) wr):=by have h:=HN.out.2;rw[List.take_length]at h;exact h
   have c9':wr.cell? ⟨p,9,none⟩=some (.slice ao l.length cap):=by rw[hB.cell (p:=⟨p,9,none⟩) dc];exact c9
   have f9':wr.frozen? ⟨p,9,none⟩=false:=by rw[hB.frozen (p:=⟨p,9,none⟩) dc];exact f9
   go_wp2;go_end0;exact HU.out _ _ HX.out
variable{w wr w':World}{p k g1 off cap:Nat}{s:St}{m:MV}{g:List (Ln×Value)}{c:Int}{F:Ft}
theorem Hs(hm:MF w p s m g): ∃ao cap G,m.cv= .slice ao s.aq.length cap∧w.cell? ⟨p,10,none⟩=some (.slice ao s.aq.length cap)∧Hid ((lz (.slice ao s.aq.length cap) s.aq).holds w G)∧Hid (0<s.aq.length-> ∃g off,ao=some ⟨g,off,none⟩):=by have c7:w.cell? ⟨p,10,none⟩=some m.cv:=hm.cell 10;obtain⟨G,hG⟩:=hm.cn;obtain⟨ao,cap,hv,dF,bI⟩:=bO hG;rw[hv]at hG c7;exact⟨ao,cap,G,hv,c7,hG,bI⟩
theorem QD{l:List Cn}(h:(l.map (·.n)).Nodup){i j:Nat}(hi:i<l.length)(hj:j<l.length)(e:(l[i]'hi).n=(l[j]'hj).n):i=j:=by
 have h2:=List.pairwise_iff_getElem.1 h;rcases Nat.lt_trichotomy i j with h'|h'|h'
 ·exact absurd (by rw[List.getElem_map,List.getElem_map];exact e) (h2 i j (by simpa using hi) (by simpa using hj) h')
 ·exact h'
 ·exact absurd (by rw[List.getElem_map,List.getElem_map];exact e.symm) (h2 j i (by simpa using hj) (by simpa using hi) h')
theorem jd{α:Type}{p:α->Bool}{f:α->α}{l:List α}(hk:k<l.length)(hq:p (l[k]'hk)=true)(hi:k<=l.findIdx p):aK p f l=l.set k (f (l[k]'hk)):=by
 induction l generalizing k with
 |nil=>simp at hk
 |cons x l ih=>
  unfold aK
  match k with
  |0=>have:p x=true:=hq;rw[if_pos this];rfl
  |k+1=>
   have hx:p x=false:=by
    cases h:p x with
    |false=>rfl
    |true=>rw[List.findIdx_cons,h]at hi;simp at hi
   rw[if_neg (by simp[hx]),List.set_cons_succ];rw[List.findIdx_cons,hx]at hi;congr 1;exact ih (by simpa using hk) (by simpa using hq) (by simpa using hi)
theorem S0(hv:(s.aq.map (·.n)).Nodup)(hk:k<s.aq.length)(hn:(s.aq[k]'hk).n=c)(hd:(s.aq[k]'hk).drains=true)(hg:(s.aq[k]'hk).gone=false)(hh:s.held c=0):s.fJ c={s with aq:=s.aq.set k {s.aq[k]'hk with gone:=true}}.say c [98,121,101]:=by
 unfold St.fJ;rw[if_pos]
 ·rw[jd (k:=k) hk (by simpa using hn)];rw[<-Nat.not_lt];intro ay;have hl:s.aq.findIdx (fun x=>x.n==c)<s.aq.length:=Nat.lt_trans ay hk;have:=List.findIdx_getElem (w:=hl);have e:=QD hv hl hk (by rw[hn];simpa using this);omega
 ·rw[bZ,List.any_eq_true];exact⟨⟨_,aY hk,by simp[hn,hd,hg]⟩,by simpa using hh⟩
theorem W6(hv:(s.aq.map (·.n)).Nodup)(hk:k<s.aq.length)(hn:(s.aq[k]'hk).n=c)(h:(s.aq[k]'hk).drains=false∨(s.aq[k]'hk).gone=true∨s.held c≠0):s.fJ c=s:=by
 unfold St.fJ;rw[if_neg];rw[bZ,List.any_eq_true];rintro⟨⟨x,hx,h1⟩,h2⟩;obtain⟨j,hj,rfl⟩:=List.getElem_of_mem hx;simp only[bZ,beq_iff_eq,Bool.not_eq_true']at h1;obtain rfl:=QD hv hj hk (h1.1.1.trans hn.symm);rcases h with h|h|h
 ·rw[h]at h1;simp at h1
 ·rw[h]at h1;simp at h1
 ·exact h (by simpa using h2)
theorem OI(h:s.aq.length<=s.aq.findIdx (fun x=>x.n==c)):s.fJ c=s:=by unfold St.fJ;rw[if_neg];rw[bZ,List.any_eq_true];rintro⟨⟨x,hx,h1⟩,_⟩;simp only[bZ]at h1;have:=qD h;rw[List.any_eq_false]at this;exact this x hx h1.1.1
def wH(p:Nat)(s:St)(c:Int)(m:MV)(g:List (Ln×Value))(w:World)(F:Ft)(wr:World):Prop:= ∃nk,Goes (aI p (s.fJ c) {m with ov:=nk} g) w F wr
theorem wH.refl(h:(aI p s m g).holds w F)(hb:Below w.heap.size w wr)(e:s.fJ c=s):wH p s c m g w F wr:=
 ⟨m.ov,by rw[e];exact(Goes.refl h).below hb⟩
theorem wH.below(h:wH p s c m g w F wr)(hb:Below wr.heap.size wr w'):wH p s c m g w F w':=by obtain⟨nk,h⟩:=h;exact⟨nk,h.below hb⟩
theorem wH.cells(h:wH p s c m g w F wr)(hr:g.map (·.1)=s.ring)(Ic:m.cv= .slice (some ⟨g1,off,none⟩) s.aq.length cap)(hk:k<s.aq.length): ∃x:Cn,x.n=(s.aq[k]'hk).n∧wr.cell? ⟨g1,off+k*4,none⟩=some (.int .i64 x.n)∧wr.cell? ⟨g1,off+k*4+1,none⟩=some (.string ⟨x.rest.toArray⟩)∧wr.cell? ⟨g1,off+k*4+2,none⟩=some (.bool x.drains)∧wr.cell? ⟨g1,off+k*4+3,none⟩=some (.bool x.gone):=by
 obtain⟨nk,h⟩:=h;obtain⟨F',dR⟩:=h.facts;have dU:=bR (s:=s.fJ c) (by rw[hr,(St.sx (s:=s) c).2.2.1]) dR;obtain⟨G,hG⟩:=dU.cn;have hlen:(s.fJ c).aq.length=s.aq.length:=by
  unfold St.fJ;split
  ·show(aK _ _ s.aq).length=_;rw[dh]
  ·rfl
 have jI:(s.fJ c).aq.map (·.n)=s.aq.map (·.n):=by
  unfold St.fJ;split
  ·exact cr (fun x=>x.n==c) (fun x:Cn=>{x with gone:=true}) (·.n) (fun _=>rfl) s.aq
  ·rfl
 have jU:k<(s.fJ c).aq.length:=by omega
 refine⟨(s.fJ c).aq[k]'jU, ?_, ?_⟩
 ·have:=congrArg (fun l:List Int=>l[k]?) jI;simpa[List.getElem?_map,List.getElem?_eq_getElem jU,List.getElem?_eq_getElem hk]using this
 ·refine gL (G:=G) (cap:=cap) ?_ jU;rw[hlen];have e:({m with ov:=nk}:MV).cv= .slice (some ⟨g1,off,none⟩) s.aq.length cap:=Ic;rw[e]at hG;exact hG
theorem Pn{w1:World}(az:(aI p s m g).holds w F)(hb:Below w.heap.size w w1)(Ic:m.cv= .slice (some ⟨g1,off,none⟩) s.aq.length cap)(hk:k<s.aq.length):Goes (aI p {s with aq:=s.aq.set k {s.aq[k]'hk with gone:=true}} m g) w F (w1.setCell ⟨g1,off+k*4+3,none⟩ (.bool true)):=by
 have h0:Goes (aI p s m g) w F w1:=(Goes.refl az).below hb;rw[kV]at h0;refine Goes.eq (h0.trans fun F' h'=>Goes.frame h' (A':=lz m.cv (s.aq.set k {s.aq[k]'hk with gone:=true})) fun G hG _=> ?_) ?_
 ·unfold lz at hG⊢;rw[Ic]at hG⊢;rw[List.length_set,Nat.add_assoc];have:=cu hG (k*4+3) (.bool true) (by omega);rw[j4 yg s.aq k 3 hk (by omega) (.bool true) {s.aq[k]'hk with gone:=true} rfl]at this;exact this
 ·rw[kV];rfl
def kj(p:Nat)(s:St)(c:Int)(m:MV)(g:List (Ln×Value))(w:World)(F:Ft)(k:Nat)(wr:World):Prop:=
 (k<=s.aq.findIdx (fun x=>x.n==c)∧Below w.heap.size w wr)∨((∃j,∃hj:j<s.aq.length,j<k∧(s.aq[j]'hj).n=c)∧wH p s c m g w F wr)
theorem kj.below(h:kj p s c m g w F k wr)(hb:Below wr.heap.size wr w'):kj p s c m g w F k w':=by
 rcases h with⟨h1,h2⟩|⟨h1,h2⟩
 ·exact Or.inl ⟨h1,h2.trans (hb.mono h2.size)⟩
 ·exact Or.inr ⟨h1,h2.below hb⟩
theorem kj.alloc(h:kj p s c m g w F k wr)(o:Obj):kj p s c m g w F k (wr.alloc o):=h.below ((ah _ _).alloc (ae _) _)
theorem Dp(p:Nat)(c:Int)(s:St)(hv:(s.aq.map (·.n)).Nodup)(m:MV)(g:List (Ln×Value))(w:World)(F:Ft)(hr:g.map (·.1)=s.ring)(az:(aI p s m g).holds w F)(hl:s.af.length<=16777216)(oJ:s.aq.length<=16777216)(NX:s.out.length<=33554432):Calls prog 147 #[.pointer (some ⟨p,0,none⟩), .int .i64 c] w fun e w'=>e= .returned (.tuple #[])∧wH p s c m g w F w':=by
 have dU:=bR hr az;obtain⟨ao,cap,G,Ic,c10,HG,fT⟩:=Hs dU;have ZA:Hid (m.cv= .slice ao s.aq.length cap):=Ic;have dc:=dU.lt;have HO:Hid ((aI p s m g).holds w F):=az;have HR:Hid (g.map (·.1)=s.ring):=hr;have HM:Hid (MF w p s m g):=dU;have HV:Hid ((s.aq.map (·.n)).Nodup):=hv;have HL:Hid (s.af.length<=16777216):=hl;have ZR:Hid (s.out.length<=33554432):=NX;clear az hr dU hv Ic hl NX;go_enter func147,ntmps147;go_wp2;go_loopw [11] (fun i wr=> ∃k:Nat,k<=s.aq.length∧i= .int .i64 k∧Hid (kj p s c m g w F k wr)) (fun i _=>s.aq.length-(intOf i).toNat)
 case atStart=>exact⟨0,aJ _,rfl,Or.inl ⟨aJ _,ah _ _⟩⟩
 case round=>
  obtain⟨k,hk,rfl,HI⟩:=hrel;by_cases ay:k<s.aq.length
  ·obtain⟨g1,off,rfl⟩:=fT.out (by omega);rcases HI.out with⟨hi,hB⟩|⟨⟨j,hj,hjk,NW⟩,rE⟩
   ·have cg:=hB.size;obtain⟨c0,c1,c2,c3⟩:=gL (au HG.out hB) ay;cases hq:((s.aq[k]'ay).n==c)
    ·have ig:Hid (kj p s c m g w F (k+1) wr):=Or.inl ⟨eI ay hq hi,hB⟩;clear HI hi;go_wp2;go_roundw
     case rel=>exact⟨k+1,by omega,by go_num,ig.out.alloc _⟩
     case measure=>simp[intOf];omega
    ·have Ad:(s.aq[k]'ay).n=c:=by simpa using hq
     have jr:Hid (∀w',Below w.heap.size w w'->(s.aq[k]'ay).drains=false∨(s.aq[k]'ay).gone=true∨s.held c≠0->kj p s c m g w F (k+1) w'):=fun w' hb h=>Or.inr ⟨⟨k,ay,Nat.lt_succ_self _,Ad⟩,wH.refl HO.out hb (W6 HV.out ay Ad h)⟩;have ot:Hid ((s.aq[k]'ay).drains=true->(s.aq[k]'ay).gone=false->s.held c=0-> ∀w' nk,Goes (aI p ({s with aq:=s.aq.set k {s.aq[k]'ay with gone:=true}}.say c [98,121,101]) {m with ov:=nk} g) w F w'->kj p s c m g w F (k+1) w'):=fun h1 h2 h3 w' nk h=>Or.inr ⟨⟨k,ay,Nat.lt_succ_self _,Ad⟩,nk,by rw[S0 HV.out ay Ad h1 h2 h3];exact h⟩;have HGF:Hid (∀w1,Below w.heap.size w w1->Goes (aI p {s with aq:=s.aq.set k {s.aq[k]'ay with gone:=true}} m g) w F (w1.setCell ⟨g1,off+k*4+3,none⟩ (.bool true))):=fun w1 hb=>Pn HO.out hb ZA.out ay;have HHD:Hid (∀w':World,Below w.heap.size w w'->Calls prog 189 #[.pointer (some ⟨p,0,none⟩), .int .i64 c] w' fun e dV=>e= .returned (.int .i64 (s.held c))∧Below w'.heap.size w' dV):=fun w' hb=>PE p c s m g w' (HM.out.below hb) HL.out;clear HI hi Ad;cases hd:(s.aq[k]'ay).drains
     ·rw[hd]at c2;go_wp2;go_roundw
      case rel=>exact⟨k+1,by omega,by go_num,jr.out _ (hB.alloc cg _) (Or.inl hd)⟩
      case measure=>simp[intOf];omega
     ·rw[hd]at c2;cases hg:(s.aq[k]'ay).gone
      ·rw[hg]at c3;go_wp2_with fail;refine(HHD.out _ (hB.alloc cg _)).mono ?_;rintro e w1⟨rfl,hb1⟩;have hB1:Below w.heap.size w w1:=(hB.alloc cg _).trans (hb1.mono (by simp;omega));cases hh:((s.held c:Int)==0)
       ·go_wp2;go_roundw
        case rel=>exact⟨k+1,by omega,by go_num,jr.out _ hB1 (Or.inr (Or.inr (by simpa using hh)))⟩
        case measure=>simp[intOf];omega
       ·have d3:w1.cell? ⟨g1,off+k*4+3,none⟩=some (.bool (s.aq[k]'ay).gone):=(gL (au HG.out hB1) ay).2.2.2;have df:w1.frozen? ⟨g1,off+k*4+3,none⟩=false:=bV (au HG.out hB1) _;have d10:w1.cell? ⟨p,10,none⟩=some (.slice (some ⟨g1,off,none⟩) s.aq.length cap):=by rw[hB1.cell (p:=⟨p,10,none⟩) dc];exact c10
        have nt:=HGF.out w1 hB1;have ZI:Hid (Goes (aI p {s with aq:=s.aq.set k {s.aq[k]'ay with gone:=true}} m g) w F (w1.setCell ⟨g1,off+k*4+3,none⟩ (.bool true))):=nt;clear nt HGF HHD jr hb1;go_wp2_with fail;obtain⟨F2,eX,o2,n2⟩:=ZI.out;refine(lW p c [98,121,101] _ m g _ F2 eX ZR.out (by decide)).mono ?_;rintro e w2⟨rfl,nk,ld⟩;have HZ:Hid (kj p s c m g w F (k+1) w2):=ot.out hd hg (by simpa using hh) w2 nk (ZI.out.trans fun F' dR=>by rw[bF dR eX];exact ld);clear eX o2 n2 ld ot;go_wp2;go_roundw
        case rel=>exact⟨k+1,by omega,by go_num,HZ⟩
        case measure=>simp[intOf];omega
      ·rw[hg]at c3;go_wp2;go_roundw
       case rel=>exact⟨k+1,by omega,by go_num,jr.out _ (hB.alloc cg _) (Or.inr (Or.inl hg))⟩
       case measure=>simp[intOf];omega
   ·obtain⟨x,hxn,c0,c1,c2,c3⟩:=rE.cells HR.out ZA.out ay;have hq:(x.n==c)=false:=by
     rw[hxn,beq_eq_false_iff_ne];intro e;have:=QD HV.out hj ay (NW.trans e.symm);omega
    have ig:Hid (kj p s c m g w F (k+1) wr):=Or.inr ⟨⟨j,hj,by omega,NW⟩,rE⟩;clear HI rE hxn NW;go_wp2;go_roundw
    case rel=>exact⟨k+1,by omega,by go_num,ig.out.alloc _⟩
    case measure=>simp[intOf];omega
  ·obtain rfl:k=s.aq.length:=by omega
   have HX:Hid (wH p s c m g w F wr):=by
    rcases HI.out with⟨hi,hB⟩|⟨_,rE⟩
    ·exact wH.refl HO.out hB (OI hi)
    ·exact rE
   clear HI;go_wp2;go_end0;exact⟨rfl,HX.out⟩
variable{w:World}
theorem W5{p:Nat}{s:St}{m:MV}{g:List (Ln×Value)}{w2:World}{F:Ft}{v:Value}{l:List At}(az:(aI p s m g).holds w F)(h:Goes (mz v l) w (fun _=>False) w2):Goes (aI p {s with af:=l} {m with av:=v} g) w F (w2.setCell ⟨p,7,none⟩ v):=by
 have h1:Goes (aa (mz v l) (aI p s m g)) w F w2:=(Goes.refl az).fresh h;rw[oQ]at h1;have h2:=(h1.eq (show _=aa (iM p s m) (aa (mz v l) (aa (mz m.av s.af) (aa (dO m.rv s.reqs) (aa (rX m.gv g) (aa (inA m.wv s.wait) (aa (lz m.cv s.aq) (iB m.ov s.out)))))))by ac_rfl)).store 7 v;have h3:Goes (aa (aI p {s with af:=l} {m with av:=v} g) (mz m.av s.af)) w F (w2.setCell ⟨p,7,none⟩ v):=h2.eq (by
  rw[oQ];show aa (blk p (.cells (y9 {s with af:=l} {m with av:=v}) 162 (0,0))) _=aa (aa (mz v l) (aa (blk p (.cells (y9 {s with af:=l} {m with av:=v}) 162 (0,0))) _)) _
  ac_rfl)
 exact h3.drop
theorem pU{α:Type}(l:List α)(i:Nat):l.take i++l.drop (i+1)=l.eraseIdx i:=(List.eraseIdx_eq_take_drop_succ l i).symm
theorem zk(l:List At): ∀u∈flat fW l,u.oneCell'=true:=by intro u hu;obtain⟨a,_,h⟩:=List.mem_flatMap.1 hu;simp only[fW,List.mem_cons,List.mem_nil_iff,or_false]at h;rcases h with rfl|rfl|rfl|rfl|rfl<;>rfl
theorem il{e:TypeId}{size n:Nat}{xs:List Value}{G:Ft}{g off cap:Nat}(h:(rowA e size (.slice (some ⟨g,off,none⟩) n cap) n xs).holds w G)(i m:Nat)(hm:i+m<=n): ∀j u,((xs.drop (i*size)).take (m*size))[j]?=some u->w.cell? ((⟨g,off+i*size,none⟩:Addr).add j)=some u:=by
 intro j u hu;rw[List.getElem?_take]at hu;split at hu
 ·rename_i hj;rw[List.getElem?_drop]at hu;have hle:(i+m)*size<=n*size:=Nat.mul_le_mul_right _ hm;rw[Nat.add_mul]at hle;rw[Addr.add_lit,Nat.add_assoc,bm h _ (by omega)];exact hu
 ·cases hu
theorem hE(p:Nat)(i:Nat)(s:St)(hv:Inv s)(w:World)(F:Ft)(hm:(aU p s).holds w F)(hi:i<s.af.length)(hl:s.af.length<=16777216)(oJ:s.aq.length<=16777216)(NX:s.out.length<=33554432):Calls prog 104 #[.pointer (some ⟨p,0,none⟩), .int .i64 i] w (fZ p (s.aS i) w F):=by
 obtain⟨i0,kR,gI,dN,fS⟩:=info_parts infoAt;obtain⟨m,g,hr,az⟩:=bD hm;have dU:=bR hr az;obtain⟨ao,cap,G,c7,HG,fT⟩:=dU.af;have f7:w.frozen? ⟨p,7,none⟩=false:=dU.frozen 7;have dc:=dU.lt;obtain⟨g1,off,rfl⟩:=fT.out (by omega);obtain⟨_,_,c2,_,_⟩:=dZ HG.out hi;have dF:s.af.length<=cap:=by obtain⟨_,_,e,h,_⟩:=bC HG.out;cases e;exact h
 have HO:Hid ((aI p s m g).holds w F):=az;have HR:Hid (g.map (·.1)=s.ring):=hr;have HBY:Hid (∀(v:Value) (w2:World),Goes (mz v (s.af.eraseIdx i)) w (fun _=>False) w2->Calls prog 147 #[.pointer (some ⟨p,0,none⟩), .int .i64 (s.af[i]'hi).conn] (w2.setCell ⟨p,7,none⟩ v) (fZ p (s.aS i) w F)):=fun v w2 h=>by
  have h1:=W5 HO.out h;obtain⟨F1,cd,o1,n1⟩:=h1;refine(Dp p (s.af[i]'hi).conn {s with af:=s.af.eraseIdx i} hv.cn {m with av:=v} g _ F1 HR.out cd (by rw[List.length_eraseIdx];split<;>simp<;>omega) oJ NX).mono ?_;rintro e w3⟨rfl,nk,rE⟩;refine⟨rfl, ?_⟩;have wQ:s.aS i={s with af:=s.af.eraseIdx i}.fJ (s.af[i]'hi).conn:=by unfold St.aS;rw[a7 hi]
  rw[wQ];have xB:g.map (·.1)=({s with af:=s.af.eraseIdx i}.fJ (s.af[i]'hi).conn).ring:=by rw[(St.sx (s:={s with af:=s.af.eraseIdx i}) _).2.2.1];exact HR.out
  exact cI xB (Goes.trans ⟨F1,cd,o1,n1⟩ fun F' dR=>by rw[bF dR cd];exact rE)
 have JU:Hid (∀j u,(flat fW (s.af.take i))[j]?=some u->w.cell? ((⟨g1,off,none⟩:Addr).add j)=some u):=by have h:=il HG.out 0 i (by omega);rw[Nat.zero_mul,Nat.add_zero,List.drop_zero,uY ly _ _ (by omega)]at h;exact h
 have wJ:Hid (∀j u,(flat fW (s.af.drop (i+1)))[j]?=some u->w.cell? ((⟨g1,off+(i+1)*5,none⟩:Addr).add j)=some u):=by have h:=il HG.out (i+1) (s.af.length-(i+1)) (by omega);rw[uX ly _ _ (by omega),List.take_of_length_le (by rw[dE ly,List.length_drop];exact ae _)]at h;exact h
 have qb:((i:Nat):Int)+1<=((s.af.length:Nat):Int):=by omega
 have sH:((i:Nat):Int)<=((cap:Nat):Int):=by omega
 have Mk:(0:Int)<=((i:Nat):Int):=by omega
 clear hm az hr dU hv oJ NX;go_enter func104,ntmps104;go_wp2_with (at_builtin;go_must(refine aC _ rfl _ _ 158 rfl 170 i0 (.agg #[.int .i64 0, .int .i64 0, .int .i64 0, .int .i64 0, .int .i64 0]) 5 40 underlying158 kR gI dN fS rfl (by decide) (F:=fun _=>False) _ 0 [] rfl (dS _ _ _ (fun _ h=>h)) ⟨g1,off,none⟩ i cap (flat fW (s.af.take i)) rfl (by rw[dE ly,List.length_take,Nat.min_eq_left (by omega)]) (JU.out) (zk _) (by unfold maxLen;omega) (by omega) ?main))
 case main=>
  intro dP eQ w1 qa;have hB1:=qa.toBelow;have zO:Hid (Goes (rowA 170 5 (.slice dP i eQ) i (flat fW (s.af.take i))) w (fun _=>False) w1):=qa;have W8:w1.cell? ⟨p,7,none⟩=some (.slice (some ⟨g1,off,none⟩) s.af.length cap):=by rw[hB1.cell (p:=⟨p,7,none⟩) dc];exact c7
  have f7':w1.frozen? ⟨p,7,none⟩=false:=by rw[hB1.frozen (p:=⟨p,7,none⟩) dc];exact f7
  have YZ:Hid (Below w.heap.size w w1):=hB1;obtain⟨G1,lH,o1,n1⟩:=zO.out;have uL:Hid ((rowA 170 5 (.slice dP i eQ) i (flat fW (s.af.take i))).holds w1 G1):=lH;have ac0:=hB1.size;have Ua: ¬G1 p:=fun h=>by rcases n1 p h with h|h;(·exact h);(·omega)
  have SG:Hid (¬G1 p):=Ua;have BU:p<w1.heap.size:=by omega
  have fg:Hid (∀(cU:Option Addr) (n2 gz:Nat) (w2:World) (news:List Value),Goes (rowA 170 5 (.slice cU n2 gz) n2 (flat fW (s.af.take i)++news)) w1 G1 w2->n2+1=s.af.length->news=flat fW (s.af.drop (i+1))->Goes (mz (.slice cU n2 gz) (s.af.eraseIdx i)) w (fun _=>False) w2):=fun cU n2 gz w2 news h hn jy=>by
   have e1:(s.af.eraseIdx i).length=n2:=by rw[List.length_eraseIdx,if_pos hi];omega
   refine Goes.eq (zO.out.trans fun F' dR=>by rw[eO dR uL.out];exact h) ?_;unfold mz;rw[e1,jy,<-pW,pU]
  clear qa lH o1 n1 hB1 Ua;by_cases A7:cap=i+1
  ·subst A7;have hlen:s.af.length=i+1:=by omega
   go_wp2_with (at_builtin;go_must(refine aC _ rfl _ _ 158 rfl 170 i0 (.agg #[.int .i64 0, .int .i64 0, .int .i64 0, .int .i64 0, .int .i64 0]) 5 40 underlying158 kR gI dN fS rfl (by decide) (F:=G1) _ i (flat fW (s.af.take i)) rfl uL.out ⟨g1,off,none⟩ 0 0 [] rfl rfl (fun j u h=>by simp at h) (fun u h=>by cases h) (by unfold maxLen;omega) (by omega) ?tY))
   case tY=>
    intro cU gz w2 gQ;have GG:Hid (Goes (mz (.slice cU i gz) (s.af.eraseIdx i)) w (fun _=>False) w2):=fg.out cU i gz w2 [] (by simpa using gQ) (by omega) (by rw[List.drop_of_length_le (by omega)];rfl);have abT:w2.cell? ⟨p,7,none⟩=some (.slice (some ⟨g1,off,none⟩) s.af.length (i+1)):=by rw[gQ.only.cell (p:=⟨p,7,none⟩) BU SG.out];exact W8
    have ab6:w2.frozen? ⟨p,7,none⟩=false:=by rw[gQ.only.frozen (p:=⟨p,7,none⟩) BU SG.out];exact f7'
    clear gQ fg;go_wp2_with fail;refine(HBY.out _ w2 GG.out).mono ?_;rintro e w3 h;obtain⟨rfl,h⟩:=h;go_wp2;go_end0;exact⟨rfl,h⟩
  ·have pX:((i:Nat):Int)+1<=((cap:Nat):Int):=by omega
   go_wp2_with (at_builtin;go_must(refine aC _ rfl _ _ 158 rfl 170 i0 (.agg #[.int .i64 0, .int .i64 0, .int .i64 0, .int .i64 0, .int .i64 0]) 5 40 underlying158 kR gI dN fS rfl (by decide) (F:=G1) _ i (flat fW (s.af.take i)) rfl uL.out ⟨g1,off+(i+1)*5,none⟩ (s.af.length-(i+1)) (cap-(i+1)) (flat fW (s.af.drop (i+1))) rfl (by rw[dE ly,List.length_drop]) (fun j u h=>by rw[YZ.out.cell (p:=(⟨g1,off+(i+1)*5,none⟩:Addr).add j) (by rw[Addr.add_lit];exact(dK HG.out).1)];exact wJ.out j u h) (zk _) (by unfold maxLen;omega) (by omega) ?tY))
   case tY=>
    intro cU gz w2 gQ;have GG:Hid (Goes (mz (.slice cU (i+(s.af.length-(i+1))) gz) (s.af.eraseIdx i)) w (fun _=>False) w2):=fg.out cU _ gz w2 _ gQ (by omega) rfl;have abT:w2.cell? ⟨p,7,none⟩=some (.slice (some ⟨g1,off,none⟩) s.af.length cap):=by rw[gQ.only.cell (p:=⟨p,7,none⟩) BU SG.out];exact W8
    have ab6:w2.frozen? ⟨p,7,none⟩=false:=by rw[gQ.only.frozen (p:=⟨p,7,none⟩) BU SG.out];exact f7'
    clear gQ fg;go_wp2_with fail;refine(HBY.out _ w2 GG.out).mono ?_;rintro e w3 h;obtain⟨rfl,h⟩:=h;go_wp2;go_end0;exact⟨rfl,h⟩
variable{w:World}{s:St}{g:List (Ln×Value)}
theorem vq{p:Nat}{m:MV}(hm:MF w p s m g): ∃ao cap G,m.gv= .slice ao g.length cap∧w.cell? ⟨p,8,none⟩=some (.slice ao g.length cap)∧Hid ((rowA 176 2 (.slice ao g.length cap) g.length (flat eN g)).holds w G)∧Hid (0<g.length-> ∃g off,ao=some ⟨g,off,none⟩):=by have c7:w.cell? ⟨p,8,none⟩=some m.gv:=hm.cell 8;obtain⟨G,hG⟩:=hm.ln;obtain⟨ao,cap,hv,dF,bI⟩:=bO hG;rw[hv]at hG c7;exact⟨ao,cap,G,hv,c7,hG,bI⟩
theorem yL{v:Value}{ids:List Int}{G:Ft}(h:(inA v ids).holds w G): ∃ao cap,v= .slice ao ids.length cap∧Hid ((inA (.slice ao ids.length cap) ids).holds w G)∧Hid (0<ids.length-> ∃g off,ao=some ⟨g,off,none⟩):=by obtain⟨ao,cap,hv,dF,bI⟩:=bO h;rw[hv]at h;exact⟨ao,cap,hv,h,bI⟩
theorem cO{a b:Bool}(h:a=b):Ending.returned (.bool a)= .returned (.bool b):=by rw[h]
theorem Vq(hr:g.map (·.1)=s.ring)(id:Int):s.waits id=g.any (fun x=>x.1.ids.any (· ==id)):=by unfold St.waits;rw[<-hr,List.any_map];rfl
theorem ry(p:Nat)(id:Int)(s:St)(hv:Inv s)(m:MV)(g:List (Ln×Value))(w:World)(hm:MF w p s m g)(hl:s.reqs.length<=16777216):Calls prog 107 #[.pointer (some ⟨p,0,none⟩), .int .i64 id] w fun e w'=>e= .returned (.bool (s.waits id))∧Below w.heap.size w w':=by
 obtain⟨ao,cap,G,_,c8,HG,fT⟩:=vq hm;have HW:Hid (s.waits id=g.any (fun x=>x.1.ids.any (· ==id))):=Vq hm.ring id;have sG:g.length<=16777216:=by have h1:=St.kg hv;rw[<-hm.ring,bf]at h1;omega
 have AH:Hid (∀k (hk:k<g.length),(g[k]'hk).1.ids.length<=16777216):=fun k hk=>by have h1:=St.qP hv (l:=(g[k]'hk).1) (by rw[<-hm.ring];exact aA.2 ⟨_,aY hk,rfl⟩);omega
 have HM:Hid (MF w p s m g):=hm;clear hm hv;go_enter func107,ntmps107;go_wp2;go_loopw [14] (fun i wr=> ∃k:Nat,k<=g.length∧i= .int .i64 k∧Hid (k<=g.findIdx (fun x=>x.1.ids.any (· ==id)))∧Below w.heap.size w wr) (fun i _=>g.length-(intOf i).toNat)
 case atStart=>exact⟨0,aJ _,rfl,aJ _,ah _ _⟩
 case round=>
  obtain⟨k,hk,rfl,HI,hB⟩:=hrel;have cg:=hB.size;by_cases ay:k<g.length
  ·obtain⟨g',off,rfl⟩:=fT.out (by omega);obtain⟨c0,c1⟩:=j9 (au HG.out hB) ay;obtain⟨G2,pw⟩:=HM.out.Wm (g[k]'ay) (aY ay);obtain⟨cU,b9,Mo,pn,C1⟩:=yL pw;have dM:=AH.out k ay;have ZC:Hid (∀b,((g[k]'ay).1.ids.any (· ==id))=b->(fun x:Ln×Value=>x.1.ids.any (· ==id)) (g[k]'ay)=b):=fun b h=>h;rw[Mo]at c1;generalize wR:(g[k]'ay).1.ids=ids at*;clear pw Mo wR;go_wp2;go_loopw [21] (fun i w2=> ∃k2:Nat,k2<=ids.length∧i= .int .i64 k2∧Hid (k2<=ids.findIdx (· ==id))∧Below w.heap.size w w2) (fun i _=>ids.length-(intOf i).toNat)
   case atStart=>exact⟨0,aJ _,rfl,aJ _,hB.alloc cg _⟩
   case round=>
    obtain⟨k2,XQ,rfl,C4,hB2⟩:=hrel;by_cases lK:k2<ids.length
    ·obtain⟨g2,fl,rfl⟩:=C1.out (by omega);have d0:=qQ (au pn.out hB2) lK;cases hq:((ids[k2]'lK)==id)
     ·have Bz:Hid (k2+1<=ids.findIdx (· ==id)):=eI lK hq C4.out;clear C4;go_wp2;go_roundw
      case rel=>exact⟨k2+1,by omega,by go_num,Bz,hB2⟩
      case measure=>simp[intOf];omega
     ·have HX:Hid (s.waits id=true):=by
       show s.waits id=true;rw[HW.out];exact tA ay (ZC.out true (tA lK hq))
      clear C4;go_wp2;go_ret;exact⟨cO HX.out.symm,hB2⟩
    ·have sI:ids.any (· ==id)=false:=qD (by have:=C4.out;omega);have ig:Hid (k+1<=g.findIdx (fun x=>x.1.ids.any (· ==id))):=eI ay (ZC.out false sI) HI.out;obtain rfl:k2=ids.length:=by omega
     clear HI C4 sI;go_wp2;go_roundw
     case rel=>exact⟨k+1,by omega,by go_num,ig,hB2⟩
     case measure=>simp[intOf];omega
  ·have HX:Hid (s.waits id=false):=by show s.waits id=false;rw[HW.out];exact qD (by have:=HI.out;omega)
   obtain rfl:k=g.length:=by omega
   clear HI;go_wp2;go_ret;exact⟨cO HX.out.symm,hB⟩
end Mr
section
open Go.RowKit aM Mr
variable{w w1:World}{F:Ft}
theorem Goes.part{A A' R:aM}{w2:World}{G:Ft}(h:Goes (aa A R) w F w1)(hs:xP A)(hG:A.holds w1 G)(bK:Goes A' w1 G w2):Goes (aa A' R) w F w2:=
 h.trans fun _ h'=>Goes.frame h' fun G' zF _=>by rw[hs w1 G' G zF hG];exact bK
theorem Goes.pieces{A R:aM}(h:Goes (aa A R) w F w1): ∃G H,A.holds w1 G∧R.holds w1 H∧(∀k,G k->F k∨w.heap.size<=k)∧(∀k,H k->F k∨w.heap.size<=k)∧ ∀k,G k-> ¬H k:=by obtain⟨F',⟨G,H,ha,hb,d,e⟩,o,n⟩:=h;exact⟨G,H,ha,hb,fun k hk=>n k ((e k).2 (.inl hk)),fun k hk=>n k ((e k).2 (.inr hk)),d⟩
end
namespace Mr
open Go.RowKit aM Mc
attribute [local go_sem] aL.ag
attribute [local go_sem] aL.ar
theorem hide{p:Prop}(h:p):Hid p:=h
theorem Ys{p:Nat}{s:St}{m:MV}{g g2:List (Ln×Value)}{w w2:World}{F:Ft}{v:Value}{r:List Ln}(az:(aI p s m g).holds w F)(hr:g2.map (·.1)=r)(h:Goes (rX v g2) w (fun _=>False) w2):Goes (aU p {s with ring:=r}) w F (w2.setCell ⟨p,8,none⟩ v):=by
 have h1:Goes (aa (rX v g2) (aI p s m g)) w F w2:=(Goes.refl az).fresh h;rw[kW]at h1;have h2:=(h1.eq (show _=aa (iM p s m) (aa (rX v g2) (aa (rX m.gv g) (aa (dO m.rv s.reqs) (aa (mz m.av s.af) (aa (inA m.wv s.wait) (aa (lz m.cv s.aq) (iB m.ov s.out)))))))by ac_rfl)).store 8 v;have h3:Goes (aa (aI p {s with ring:=r} {m with gv:=v} g2) (rX m.gv g)) w F (w2.setCell ⟨p,8,none⟩ v):=h2.eq (by
  rw[kW];show aa (blk p (.cells (y9 {s with ring:=r} {m with gv:=v}) 162 (0,0))) _=aa (aa (rX v g2) (aa (blk p (.cells (y9 {s with ring:=r} {m with gv:=v}) 162 (0,0))) _)) _
  ac_rfl)
 exact cI (m:={m with gv:=v}) (g:=g2) (s:={s with ring:=r}) hr h3.drop
def vZ(r:List Ln)(id:Int):List Ln:=(r.map (fun l=>({l with ids:=l.ids.filter (· !=id)}:Ln))).filter (fun l=> !l.ids.isEmpty)
theorem yT(r:List Ln)(l:Ln)(id:Int):vZ (r++ [l]) id=vZ r id++if(l.ids.filter (· !=id)).isEmpty then []else [⟨l.ten,l.ids.filter (· !=id)⟩]:=by
 unfold vZ;rw[aH,List.filter_append];congr 1;simp only[List.map_cons,List.map_nil];by_cases h:(l.ids.filter (· !=id)).isEmpty=true
 ·rw[if_pos h];simp[List.isEmpty_iff.1 h]
 ·rw[if_neg h];simp[h]
theorem Aw{g:List (Ln×Value)}{k:Nat}(hk:k<g.length):(g.take (k+1)).map (·.1)=(g.take k).map (·.1)++ [(g[k]'hk).1]:=by rw[fp hk,aH];rfl
theorem Qh(r:List Ln)(id:Int):(vZ r id).length<=r.length:=by unfold vZ;refine aw (List.length_filter_le ..) ?_;simp
def mq(r:List Ln)(id:Int)(w:World)(ao:Option Addr)(n cp:Nat)(wr:World):Prop:= ∃g2:List (Ln×Value),g2.map (·.1)=vZ r id∧n=g2.length∧Goes (rX (.slice ao n cp) g2) w (fun _=>False) wr
def fo(r:List Ln)(id:Int)(ids:List Int)(w:World)(b:Nat)(o:Obj)(ao:Option Addr)(n cp:Nat)(dP:Option Addr)(n1 eQ:Nat)(wr:World):Prop:=
 ∃g2:List (Ln×Value),g2.map (·.1)=vZ r id∧n=g2.length∧n1=(ids.filter (· !=id)).length∧Goes (aa (inA (.slice dP n1 eQ) (ids.filter (· !=id))) (aa (rX (.slice ao n cp) g2) (blk b o))) w (fun _=>False) wr
theorem mq.below{r:List Ln}{id:Int}{w:World}{ao:Option Addr}{n cp:Nat}{wr:World}(h:mq r id w ao n cp wr):Below w.heap.size w wr:=by obtain⟨_,_,_,h⟩:=h;exact h.toBelow
theorem mq.enter{r:List Ln}{id:Int}{w:World}{ao:Option Addr}{n cp:Nat}{wr:World}(h:mq r id w ao n cp wr)(o:Obj):fo r id [] w wr.heap.size o ao n cp none 0 0 (wr.alloc o):=by obtain⟨g2,h1,h2,h3⟩:=h;exact⟨g2,h1,h2,rfl,((h3.alloc o).eq (cA _ _)).fresh (Goes.refl (dS _ _ _ (fun _ h=>h)))⟩
section
variable{r:List Ln}{id:Int}{ids:List Int}{w:World}{b:Nat}{o:Obj}{ao:Option Addr}{n cp:Nat}{dP:Option Addr}{n1 eQ:Nat}{wr w2:World}
theorem fo.below(h:fo r id ids w b o ao n cp dP n1 eQ wr):Below w.heap.size w wr:=by obtain⟨_,_,_,_,h⟩:=h;exact h.toBelow
theorem fo.blk(h:fo r id ids w b o ao n cp dP n1 eQ wr):wr.heap[b]?=some o:=by obtain⟨g2,h1,h2,h3,h4⟩:=h;obtain⟨_,_,_,⟨_,_,_,hb,_⟩,_⟩:=h4.pieces;exact hb.1
theorem fo.same(h:fo r id ids w b o ao n cp dP n1 eQ wr){x:Int}(hx:(x !=id)=false):fo r id (ids++ [x]) w b o ao n cp dP n1 eQ wr:=by
 obtain⟨g2,h1,h2,h3,h4⟩:=h;have e:(ids++ [x]).filter (· !=id)=ids.filter (· !=id):=by rw[List.filter_append];simp[hx]
 exact⟨g2,h1,h2,by rw[e];exact h3,by rw[e];exact h4⟩
theorem fo.row(h:fo r id ids w b o ao n cp dP n1 eQ wr): ∃G,(rowA 3 1 (.slice dP n1 eQ) n1 (flat mY (ids.filter (· !=id)))).holds wr G:=by obtain⟨g2,h1,h2,h3,h4⟩:=h;obtain⟨G,_,hG,_⟩:=h4.pieces;unfold inA at hG;rw[<-h3]at hG;exact⟨G,hG⟩
theorem fo.more(h:fo r id ids w b o ao n cp dP n1 eQ wr){x:Int}(hx:(x !=id)=true){o':Obj}{G:Ft}(hG:(rowA 3 1 (.slice dP n1 eQ) n1 (flat mY (ids.filter (· !=id)))).holds wr G){cU:Option Addr}{gz:Nat}(bK:Goes (rowA 3 1 (.slice cU (n1+1) gz) (n1+1) (flat mY (ids.filter (· !=id))++ [.int .i64 x])) (wr.alloc o') G w2):fo r id (ids++ [x]) w b o ao n cp cU (n1+1) gz w2:=by
 obtain⟨g2,h1,h2,h3,h4⟩:=h;have e:(ids++ [x]).filter (· !=id)=ids.filter (· !=id)++ [x]:=by rw[List.filter_append];simp[hx]
 refine⟨g2,h1,h2,by rw[e,aN,<-h3];rfl, ?_⟩;have h5:=(h4.dt o').part (cZ _ _ _ _ _) (au (w:=wr) (by unfold inA;rw[<-h3];exact hG) ((ah _ _).alloc (ae _) _)) bK;refine h5.eq ?_;rw[e];unfold inA;rw[dL,aN,<-h3];rfl
theorem fo.out{l:Ln}(h:fo r id l.ids w b o ao n cp dP 0 eQ wr):mq (r++ [l]) id w ao n cp wr:=by obtain⟨g2,h1,h2,h3,h4⟩:=h;refine⟨g2, ?_,h2,((h4.eq (cA _ _)).drop).drop⟩;rw[yT,if_pos (List.isEmpty_iff.2 (List.eq_nil_of_length_eq_zero h3.symm)),List.append_nil];exact h1
theorem fo.ring(h:fo r id ids w b o ao n cp dP n1 eQ wr): ∃g2 G,n=g2.length∧(rowA 176 2 (.slice ao n cp) n (flat eN g2)).holds wr G:=by obtain⟨g2,h1,h2,h3,h4⟩:=h;obtain⟨G,_,hG,_⟩:=(h4.eq (show _=aa (rowA 176 2 (.slice ao n cp) g2.length (flat eN g2)) (aa (inA (.slice dP n1 eQ) (ids.filter (· !=id))) (aa (all (fun x=>inA x.2 x.1.ids) g2) (aM.blk b o)))by unfold rX;ac_rfl)).pieces;rw[<-h2]at hG;exact⟨g2,G,h2,hG⟩
theorem r9{e:TypeId}{size:Nat}{v:Value}{n:Nat}{xs ys:List Value}{w:World}{G H:Ft}(h1:(rowA e size v n xs).holds w G)(h2:(rowA e size v n ys).holds w H):xs=ys:=by
 rcases h1.2 with⟨a1,a2,_⟩|⟨x,off,cc,cur,a1,_,a3,_,_,_,a4⟩
 ·have l1:=h1.1;have l2:=h2.1;rw[a2,Nat.zero_mul]at l1 l2;rw[List.eq_nil_of_length_eq_zero l1,List.eq_nil_of_length_eq_zero l2]
 ·rcases h2.2 with⟨b1,b2,_⟩|⟨x',rH,cc',OZ,b1,_,b3,_,_,_,b4⟩
  ·rw[a1]at b1;cases b1
  ·rw[a1]at b1;cases b1;rw[a3]at b3;cases b3;rw[<-a4,<-b4]
theorem fo.put{l:Ln}(h:fo r id l.ids w b o ao n cp dP n1 eQ wr)(hn:0<n1){o':Obj}{g2:List (Ln×Value)}{G:Ft}(hG:(rowA 176 2 (.slice ao n cp) n (flat eN g2)).holds wr G){cU:Option Addr}{gz:Nat}(bK:Goes (rowA 176 2 (.slice cU (n+1) gz) (n+1) (flat eN g2++ [.string ⟨l.ten.toArray⟩, .slice dP n1 eQ])) (wr.alloc o') G w2):mq (r++ [l]) id w cU (n+1) gz w2:=by
 obtain⟨g3,h1,h2,h3,h4⟩:=h;have cC: ¬(l.ids.filter (· !=id)).isEmpty=true:=fun e=>by rw[List.isEmpty_iff.1 e]at h3;simp at h3;omega
 refine⟨g3++ [(⟨l.ten,l.ids.filter (· !=id)⟩, .slice dP n1 eQ)], ?_,by rw[aN,<-h2];rfl, ?_⟩
 ·rw[yT,if_neg cC,aH,h1];rfl
 ·have h5:=(h4.dt o').eq (show _=aa (rowA 176 2 (.slice ao n cp) n (flat eN g3)) (aa (inA (.slice dP n1 eQ) (l.ids.filter (· !=id))) (aa (all (fun x=>inA x.2 x.1.ids) g3) (aM.blk b o)))by unfold rX;rw[<-h2];ac_rfl);obtain⟨G3,_,Kr,_⟩:=h5.pieces;have zF:=au hG ((ah _ _).alloc (ae _) o');have e3:flat eN g3=flat eN g2:=r9 Kr zF;have h6:=h5.part (cZ _ _ _ _ _) (by rw[e3];exact zF) bK;refine Goes.drop (B:=aM.blk b o) (h6.eq ?_);unfold rX;rw[all_append,oy,dL,aN,<-h2,e3];show aa (rowA 176 2 (.slice cU (n+1) gz) (n+1) (flat eN g2++ [.string ⟨l.ten.toArray⟩, .slice dP n1 eQ])) _=aa (aa (rowA 176 2 (.slice cU (n+1) gz) (n+1) (flat eN g2++ [.string ⟨l.ten.toArray⟩, .slice dP n1 eQ])) _) _
  ac_rfl
end
theorem tV(p:Nat)(id:Int)(s:St)(hv:Inv s)(w:World)(F:Ft)(hm:(aU p s).holds w F)(hl:s.reqs.length<=16777216):Calls prog 149 #[.pointer (some ⟨p,0,none⟩), .int .i64 id] w (fZ p (s.left id) w F):=by
 obtain⟨i0,hi,gI,dN,fS⟩:=info_parts B7;obtain⟨j0,hj,PY,PZ,P0⟩:=info_parts IH;obtain⟨m,g,hr,az⟩:=bD hm;have dU:=bR hr az;have f8:w.frozen? ⟨p,8,none⟩=false:=dU.frozen 8;obtain⟨ao,cap,G,_,c8,HG,fT⟩:=vq dU;have dc:=dU.lt;have sG:g.length<=16777216:=by have h1:=St.kg hv;rw[<-hr,bf]at h1;omega
 have AH:Hid (∀k (hk:k<g.length),(g[k]'hk).1.ids.length<=16777216):=fun k hk=>by have h1:=St.qP hv (l:=(g[k]'hk).1) (by rw[<-hr];exact aA.2 ⟨_,aY hk,rfl⟩);omega
 have HU:Hid (∀cU n cp w2,mq (g.map (·.1)) id w cU n cp w2->fZ p (s.left id) w F (.returned (.tuple #[])) (w2.setCell ⟨p,8,none⟩ (.slice cU n cp))):=fun cU n cp w2 ⟨g2,h1,h2,h3⟩=>⟨rfl,Ys az (by rw[h1,hr];rfl) h3⟩;have HM:Hid (MF w p s m g):=dU;clear hm az hr dU hv;go_enter func149,ntmps149;go_wp2;go_loopw [4,15] (fun rv i wr=> ∃k:Nat,k<=g.length∧i= .int .i64 k∧(∃n dP cp,rv= .slice dP n cp∧n<=16777216∧Hid (mq ((g.take k).map (·.1)) id w dP n cp wr))) (fun _ i _=>g.length-(intOf i).toNat)
 case atStart=>exact⟨0,aJ _,rfl,⟨0,none,0,rfl,by omega,⟨[],rfl,rfl,(Goes.refl (dS _ _ _ (fun _ h=>h))).eq (mO _).symm⟩⟩⟩
 case round=>
  obtain⟨k,hk,rfl,⟨n,dP,cp,rfl,hn,HI⟩⟩:=hrel;have hB:=HI.out.below;have cg:=hB.size;by_cases ay:k<g.length
  ·obtain⟨g',off,rfl⟩:=fT.out (by omega);obtain⟨c0,c1⟩:=j9 (au HG.out hB) ay;obtain⟨G2,pw⟩:=HM.out.Wm (g[k]'ay) (aY ay);obtain⟨cU,b9,Mo,pn,C1⟩:=yL pw;have dM:=AH.out k ay;have HSN:Hid ((g.take (k+1)).map (·.1)=(g.take k).map (·.1)++ [(g[k]'ay).1]):=Aw ay;have WC:Hid ((vZ ((g.take (k+1)).map (·.1)) id).length<=16777216):=aw (Qh _ _) (by rw[bf,List.length_take];exact aw (Nat.min_le_right ..) sG);rw[Mo]at c1;clear pw Mo;obtain⟨ln,HLn⟩: ∃ln,Hid (ln=(g[k]'ay).1):=⟨_,hide rfl⟩;obtain⟨r,HRk⟩: ∃r,Hid (r=(g.take k).map (·.1)):=⟨_,hide rfl⟩;have NL:Hid ((g.take (k+1)).map (·.1)=r++ [ln]):=by show _=_;rw[HRk.out,HLn.out];exact HSN.out
   have HI0:=HI.out;rw[<-HRk.out]at HI0;rw[<-HLn.out]at c0 c1 dM pn C1;have WD:=WC.out;rw[NL.out]at WD;have abD:=hide WD;clear HLn HRk HSN WC HI WD;have HI:=hide HI0;clear HI0;generalize hob:Obj.cells #[.string ⟨ln.ten.toArray⟩, .slice cU ln.ids.length b9] 176 (0,0)=ob at*;have Za:Hid (Obj.cells #[.string ⟨ln.ten.toArray⟩, .slice cU ln.ids.length b9] 176 (0,0)=ob):=hob;have HEN:Hid (fo r id (ln.ids.take 0) w wr.heap.size ob dP n cp none 0 0 (wr.alloc ob)):=HI.out.enter ob;clear hob HI;go_wp2;rw[Za.out];go_loopw [7,22] (fun iv i w2=> ∃k2:Nat,k2<=ln.ids.length∧i= .int .i64 k2∧(∃n1 iN Tf,iv= .slice iN n1 Tf∧n1<=k2∧Hid (fo r id (ln.ids.take k2) w wr.heap.size ob dP n cp iN n1 Tf w2))) (fun _ i _=>ln.ids.length-(intOf i).toNat)
   case atStart=>exact⟨0,aJ _,rfl,⟨0,none,0,rfl,by omega,HEN⟩⟩
   case round=>
    rename World=>wo
    obtain⟨k2,XQ,rfl,⟨n1,iN,Tf,rfl,qb,C4⟩⟩:=hrel;have hB2:=C4.out.below;by_cases lK:k2<ln.ids.length
    ·obtain⟨g2,fl,rfl⟩:=C1.out (by omega);have d0:=qQ (au pn.out hB2) lK;have Hk:Hid (ln.ids.take (k2+1)=ln.ids.take k2++ [ln.ids[k2]'lK]):=fp lK;cases hq:((ln.ids[k2]'lK) !=id)
     ·have Bz:=C4.out.same hq;rw[<-Hk.out]at Bz;have Vy:=hide Bz;clear C4 Bz;go_wp2;go_roundw
      case rel=>exact⟨k2+1,by omega,by go_num,⟨n1,iN,Tf,rfl,by omega,Vy⟩⟩
      case measure=>simp[intOf];omega
     ·obtain⟨Gr,kG⟩:=C4.out.row;have fy:=hide kG;clear kG;go_wp2_with (at_builtin;go_must(refine aC _ rfl _ _ 36 rfl 3 i0 (.int .i64 0) 1 8 underlying36 hi gI dN fS rfl (by decide) (F:=Gr) _ n1 (flat mY ((ln.ids.take k2).filter (· !=id))) rfl (au fy.out ((ah _ _).alloc (ae _) _)) ⟨wo.heap.size,0,none⟩ 1 1 [.int .i64 (ln.ids[k2]'lK)] rfl rfl (World.news_of_block (cs:= #[.int .i64 (ln.ids[k2]'lK)]) (t:=3) (fr:=(0,0)) (heap_alloc_new wo _)) (by simp[Value.oneCell']) (by unfold maxLen;omega) (by omega) ?main))
      case main=>
       intro Lh Xb w4 bK;have Bz:=C4.out.more hq fy.out bK;rw[<-Hk.out]at Bz;have Vy:=hide Bz;clear C4 bK fy Bz;go_wp2;go_roundw
       case rel=>exact⟨k2+1,by omega,by go_num,⟨n1+1,Lh,Xb,by first|rfl|go_num,by omega,Vy⟩⟩
       case measure=>simp[intOf];omega
    ·obtain rfl:k2=ln.ids.length:=by omega
     have Vz:=C4.out;rw[List.take_length]at Vz;have Vy:=hide Vz;have NT:=Vz.blk;rw[<-Za.out]at NT;have b0:wo.cell? ⟨wr.heap.size,0,none⟩=some (.string ⟨ln.ten.toArray⟩):=bg NT;by_cases Mj:n1=0
     ·subst Mj;have HR':=hide Vy.out.out;clear C4 Vy Vz NT;go_wp2;go_roundw
      case rel=>exact⟨k+1,by omega,by go_num,⟨n,dP,cp,rfl,hn,by rw[NL.out];exact HR'⟩⟩
      case measure=>simp[intOf];omega
     ·obtain⟨g2,G5,ld,hG5⟩:=Vz.ring;have fy:=hide hG5;have j7:(0:Int)<((n1:Nat):Int):=by omega
      clear hG5 C4 Vz NT ld;go_wp2_with (at_builtin;go_must(refine aC _ rfl _ _ 159 rfl 176 j0 (.agg #[.string ⟨#[]⟩, .slice none 0 0]) 2 40 underlying159 hj PY PZ P0 rfl (by decide) (F:=G5) _ n (flat eN g2) rfl (au fy.out ((ah _ _).alloc (ae _) _)) ⟨wo.heap.size,0,none⟩ 1 1 [.string ⟨ln.ten.toArray⟩, .slice iN n1 Tf] rfl rfl (World.news_of_block (cs:= #[.string ⟨ln.ten.toArray⟩, .slice iN n1 Tf]) (t:=176) (fr:=(0,0)) (heap_alloc_new wo _)) (by simp[Value.oneCell']) (by unfold maxLen;omega) (by omega) ?main))
      case main=>
       intro Lh Xb w4 bK;have HR':=hide (Vy.out.put (by omega) fy.out bK);have V3:n+1<=16777216:=by obtain⟨g6,h1,h2,_⟩:=HR'.out;have h3:=abD.out;rw[<-h1,bf]at h3;omega
       clear Vy bK fy;go_wp2;go_roundw
       case rel=>exact⟨k+1,by omega,by go_num,⟨n+1,Lh,Xb,by first|rfl|go_num,V3,by rw[NL.out];exact HR'⟩⟩
       case measure=>simp[intOf];omega
  ·obtain rfl:k=g.length:=by omega
   have SK:=HI.out;rw[List.take_length]at SK;have HX:=hide (HU.out _ _ _ _ SK);have c8':wr.cell? ⟨p,8,none⟩=some (.slice ao g.length cap):=by rw[hB.cell (p:=⟨p,8,none⟩) dc];exact c8
   have f8':wr.frozen? ⟨p,8,none⟩=false:=by rw[hB.frozen (p:=⟨p,8,none⟩) dc];exact f8
   clear HI SK;go_wp2;go_end0;exact HX.out
