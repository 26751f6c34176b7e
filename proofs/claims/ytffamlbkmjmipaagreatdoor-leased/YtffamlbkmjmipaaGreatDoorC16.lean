import Derived.Test.YtffamlbkmjmipaaGreatDoorC12
import Derived.OwnWalk
set_option maxHeartbeats 8000000
set_option maxRecDepth 100000
namespace Go.Proofs.YtffamlbkmjmipaaGreatDoor
open _root_.Go.Proofs.Tryz
section
open Go.RowKit aM
namespace Goes
variable{A B:aM}{w w1 w2:World}{F:Ft}
theorem toBelow(h:Goes A w (fun _=>False) w1):Below w.heap.size w w1:=by obtain⟨_,_,o,_⟩:=h;exact o.toBelow (fun _ h=>h.elim) (ae _)
theorem only(h:Goes A w F w1):Only F w w1:=by obtain⟨_,_,o,_⟩:=h;exact o
theorem facts(h:Goes A w F w1): ∃F',A.holds w1 F':=by obtain⟨F',ha,_⟩:=h;exact⟨F',ha⟩
theorem fact{φ:Prop}(h:Goes A w F w1)(hφ:φ):Goes (aa (aM.fact φ) A) w F w1:=h.mono fun F' ha=>(nB φ A w1 F').2 ⟨hφ,ha⟩
theorem ex{α:Type}{A:α->aM}(x:α)(h:Goes (A x) w F w1):Goes (aM.ex A) w F w1:=h.mono fun _ ha=>⟨x,ha⟩
end Goes
end
namespace Mr
open Go.RowKit aM Mc
attribute [local go_sem] aL.ag
attribute [local go_sem] aL.ar
theorem P3:(prog.info? 51).map (fun i=>(i.zero,i.size,i.bytes))=some (some (.agg #[.int .i64 0, .string ⟨#[]⟩]),2,24):=by kernel_rfl
theorem P1:(prog.info? 166).map (fun i=>(i.zero,i.size,i.bytes))=some (some (.agg #[.int .i64 0, .string ⟨#[]⟩, .bool false, .bool false]),4,32):=by kernel_rfl
def fZ(p:Nat)(s':St)(w:World)(F:Ft)(e:Ending)(w':World):Prop:=e= .returned (.tuple #[])∧Goes (aU p s') w F w'
theorem bD{p:Nat}{s:St}{w:World}{F:Ft}(h:(aU p s).holds w F): ∃m g,g.map (·.1)=s.ring∧(aI p s m g).holds w F:=by obtain⟨m,g,h⟩:=h;obtain⟨hr,h⟩:=(nB _ _ _ _).1 h;exact⟨m,g,hr,h⟩
theorem cI{p:Nat}{s:St}{m:MV}{g:List (Ln×Value)}{w w':World}{F:Ft}(hr:g.map (·.1)=s.ring)(h:Goes (aI p s m g) w F w'):Goes (aU p s) w F w':=
 Goes.ex m (Goes.ex g (h.fact hr))
theorem kV(p:Nat)(s:St)(m:MV)(g:List (Ln×Value)):aI p s m g=aa (lz m.cv s.aq) (aa (iM p s m) (aa (dO m.rv s.reqs) (aa (mz m.av s.af) (aa (rX m.gv g) (aa (inA m.wv s.wait) (iB m.ov s.out)))))):=by unfold aI;ac_rfl
theorem eO{e:TypeId}{size n:Nat}{v:Value}{xs:List Value}{w:World}{G H:Ft}(h1:(rowA e size v n xs).holds w G)(h2:(rowA e size v n xs).holds w H):G=H:=by
 rcases h1.2 with⟨a,b,c⟩|⟨g,off,cap,cur,a,b,_⟩
 ·rcases h2.2 with⟨a',b',c'⟩|⟨g',rH,cM,OZ,a',b',_⟩
  ·exact funext fun k=>propext ⟨fun h=>(c k h).elim,fun h=>(c' k h).elim⟩
  ·rw[a]at a';cases a'
 ·rcases h2.2 with⟨a',b',c'⟩|⟨g',rH,cM,OZ,a',b',_⟩
  ·rw[a]at a';cases a'
  ·rw[a]at a';cases a';exact funext fun k=>propext ((b k).trans (b' k).symm)
def xP(A:aM):Prop:= ∀(w:World) (G H:Ft),A.holds w G->A.holds w H->G=H
theorem cZ(e:TypeId)(size:Nat)(v:Value)(n:Nat)(xs:List Value):xP (rowA e size v n xs):=fun _ _ _=>eO
def Said(p:Nat)(s:St)(m:MV)(x:Int×Bs)(w:World)(F:Ft)(e:Ending)(w':World):Prop:=e= .returned (.tuple #[])∧ ∃nk,Goes (aa (iM p s {m with ov:=nk}) (iB nk (s.out++ [x]))) w F w'
theorem U8{p:Nat}{s:St}{m:MV}{w w2:World}{F:Ft}{v:Value}{x:Int×Bs}(az:(aa (iM p s m) (iB m.ov s.out)).holds w F)(h: ∀G,(iB m.ov s.out).holds w G->Goes (rowA 51 2 v (s.out.length+1) (flat Fe s.out++Fe x)) w G w2):Goes (aa (iM p s {m with ov:=v}) (iB v (s.out++ [x]))) w F (w2.setCell ⟨p,11,none⟩ v):=by
 rw[cA]at az;have h1:Goes (aa (iB v (s.out++ [x])) (iM p s m)) w F w2:=
  Goes.frame az (fun G hG _=>(h G hG).eq (by unfold iB;rw[dL,aN];rfl))
 exact(h1.eq (cA _ _)).store 11 v
theorem Rj(p:Nat)(c:Int)(t:Bs)(s:St)(m:MV)(w:World)(F:Ft)(az:(aa (iM p s m) (iB m.ov s.out)).holds w F)(hlen:s.out.length<=33554432)(hs:t.length<=1048576):Calls prog 102 #[.pointer (some ⟨p,0,none⟩), .int .i64 c, .string ⟨t.toArray⟩] w (Said p s m (c,t) w F):=by
 obtain⟨i0,hi,gI,dN,fS⟩:=info_parts P3;have cP:=(dC az).1;have c11:w.cell? ⟨p,11,none⟩=some m.ov:=bg cP;have f11:w.frozen? ⟨p,11,none⟩=false:=oz cP;have dc:p<w.heap.size:=(cT.1 cP).1;obtain⟨G,hG,GK⟩: ∃G,(iB m.ov s.out).holds w G∧ ¬G p:=by obtain⟨G,H,ha,hb,d,e⟩:=az;exact⟨H,hb,d p ((ha.2 p).2 rfl)⟩
 have HO:Hid ((aa (iM p s m) (iB m.ov s.out)).holds w F):=az;have HG:Hid ((iB m.ov s.out).holds w G):=hG;have HP:Hid (¬G p):=GK;have pC:Hid (∀w:World,Calls prog 58 #[.string ⟨t.toArray⟩] w fun e w'=>e= .returned (.string ⟨(aL.line t).toArray⟩)∧Below w.heap.size w w'):=fun w=>aL.lX ⟨t.toArray⟩ w hs;have WR:Hid (aL.line t=aL.line t):=rfl;clear az hG GK cP;go_enter func102,ntmps102;go_wp2_with fail
 go_region_law (first
   |(refine fe _ (by rfl) _ _ _ (by rfl) 51 i0 _ 2 24 underlying32 hi gI dN fS rfl (by omega) (F:=G) m.ov s.out.length (flat Fe s.out) (by rfl) (au (w:=w1) (au (w:=w.drew) (w':=w1) HG.out hb1) ((ah _ _).alloc (ae _) _)) ⟨w1.heap.size,0,none⟩ 1 1 [.int .i64 c, .string ⟨(aL.line t).toArray⟩] (by rfl) (by rfl) (World.news_of_block (cs:= #[.int .i64 c, .string ⟨(aL.line t).toArray⟩]) (t:=51) (fr:=(0,0)) (heap_alloc_new w1 _)) (by simp[Value.oneCell']) (by unfold maxLen;omega) (by omega) ?_;intro cU gz w2 bK;have Kw:w2.cell? ⟨p,11,none⟩=some m.ov:=(by rw[bK.only.cell (p:=⟨p,11,none⟩) (by simp;omega) HP.out,World.cell?_alloc_past _ _ _ aa4];exact pX);have A9:w2.frozen? ⟨p,11,none⟩=false:=(by rw[bK.only.frozen (p:=⟨p,11,none⟩) (by simp;omega) HP.out,World.frozen?_alloc_past _ _ _ aa4];exact CW))
   |(go_simp;go_at_call 58;refine(pC.out _).mono ?_;rintro e w1⟨rfl,hb1⟩;have aa4:p<w1.heap.size:=bP dc hb1.size;have pX:w1.cell? ⟨p,11,none⟩=some m.ov:=(by rw[hb1.cell (p:=⟨p,11,none⟩) dc];exact c11);have CW:w1.frozen? ⟨p,11,none⟩=false:=(by rw[hb1.frozen (p:=⟨p,11,none⟩) dc];exact f11)))
 all_goals go_end0;refine⟨rfl,_,U8 (x:=(c,t)) HO.out (fun G' zF=> ?_)⟩;have e:G'=G:=eO zF HG.out;subst e;exact(((Goes.refl zF).drew.below hb1).dt _).trans (fun F' dR=>by rw[eO dR (au (au (w:=w.drew) (w':=w1) HG.out hb1) ((ah _ _).alloc (ae _) _))];exact bK)
def Qv(s:St)(m:MV)(g:List (Ln×Value)):aM:=aa (dO m.rv s.reqs) (aa (mz m.av s.af) (aa (rX m.gv g) (aa (inA m.wv s.wait) (lz m.cv s.aq))))
theorem Bk(p:Nat)(s:St)(m:MV)(g:List (Ln×Value)):aI p s m g=aa (aa (iM p s m) (iB m.ov s.out)) (Qv s m g):=by unfold aI Qv;ac_rfl
theorem lW(p:Nat)(c:Int)(t:Bs)(s:St)(m:MV)(g:List (Ln×Value))(w:World)(F:Ft)(h:(aI p s m g).holds w F)(hlen:s.out.length<=33554432)(hs:t.length<=1048576):Calls prog 102 #[.pointer (some ⟨p,0,none⟩), .int .i64 c, .string ⟨t.toArray⟩] w fun e w'=>e= .returned (.tuple #[])∧ ∃nk,Goes (aI p (s.say c t) {m with ov:=nk} g) w F w':=by
 rw[Bk]at h;obtain⟨G,H,ha,hb,d,e⟩:=h;refine(Rj p c t s m w G ha hlen hs).mono ?_;rintro e' w'⟨rfl,nk,hg⟩;refine⟨rfl,nk, ?_⟩;rw[Bk];exact Goes.frame (A:=aa (iM p s m) (iB m.ov s.out)) (B:=Qv s m g) ⟨G,H,ha,hb,d,e⟩ (fun G' zF V8=>by
  have:G'=G:=by obtain⟨X,Y,hx,hy,_,exy⟩:=ha;obtain⟨X',Y',mH,Mp,_,ab4⟩:=zF;have e1:Y'=Y:=eO Mp hy;funext k;rw[propext (exy k),propext (ab4 k),e1,propext (hx.2 k),propext (mH.2 k)]
  subst this;exact hg)
theorem mL(p:Nat)(c:Int)(t:Bs)(s:St)(w:World)(F:Ft)(hm:(aU p s).holds w F)(hlen:s.out.length<=33554432)(hs:t.length<=1048576):Calls prog 102 #[.pointer (some ⟨p,0,none⟩), .int .i64 c, .string ⟨t.toArray⟩] w (fZ p (s.say c t) w F):=by obtain⟨m,g,hr,az⟩:=bD hm;refine(lW p c t s m g w F az hlen hs).mono ?_;rintro e w'⟨rfl,nk,hg⟩;exact⟨rfl,cI (s:=s.say c t) hr hg⟩
end Mr
namespace Mr
open Go.RowKit aM Mc
attribute [local go_sem] aL.ag aL.ar
variable{w wr w':World}{p k:Nat}{s:St}{m:MV}{g:List (Ln×Value)}{c:Int}{F:Ft}
theorem Hs(hm:MF w p s m g): ∃ao cap G,m.cv= .slice ao s.aq.length cap∧w.cell? ⟨p,10,none⟩=some (.slice ao s.aq.length cap)∧Hid ((lz (.slice ao s.aq.length cap) s.aq).holds w G)∧Hid (0<s.aq.length-> ∃g off,ao=some ⟨g,off,none⟩):=by have c7:w.cell? ⟨p,10,none⟩=some m.cv:=hm.cell 10;obtain⟨G,hG⟩:=hm.cn;obtain⟨ao,cap,hv,dF,bI⟩:=bO hG;rw[hv]at hG c7;exact⟨ao,cap,G,hv,c7,hG,bI⟩
def wH(p:Nat)(s:St)(c:Int)(m:MV)(g:List (Ln×Value))(w:World)(F:Ft)(wr:World):Prop:= ∃nk,Goes (aI p (s.fJ c) {m with ov:=nk} g) w F wr
theorem wH.refl(h:(aI p s m g).holds w F)(hb:Below w.heap.size w wr)(e:s.fJ c=s):wH p s c m g w F wr:=
 ⟨m.ov,by rw[e];exact(Goes.refl h).below hb⟩
theorem wH.below(h:wH p s c m g w F wr)(hb:Below wr.heap.size wr w'):wH p s c m g w F w':=by obtain⟨nk,h⟩:=h;exact⟨nk,h.below hb⟩
theorem wH.cells(h:wH p s c m g w F wr)(hr:g.map (·.1)=s.ring){g1 off cap:Nat}(Ic:m.cv= .slice (some ⟨g1,off,none⟩) s.aq.length cap)(hk:k<s.aq.length): ∃x:Cn,x.n=(s.aq[k]'hk).n∧wr.cell? ⟨g1,off+k*4,none⟩=some (.int .i64 x.n)∧wr.cell? ⟨g1,off+k*4+1,none⟩=some (.string ⟨x.rest.toArray⟩)∧wr.cell? ⟨g1,off+k*4+2,none⟩=some (.bool x.drains)∧wr.cell? ⟨g1,off+k*4+3,none⟩=some (.bool x.gone):=by
 obtain⟨nk,h⟩:=h;obtain⟨F',dR⟩:=h.facts;have dU:=bR (s:=s.fJ c) (by rw[hr,(St.sx (s:=s) c).2.2.1]) dR;obtain⟨G,hG⟩:=dU.cn;have hlen:(s.fJ c).aq.length=s.aq.length:=by
  unfold St.fJ;split
  ·show(aK _ _ s.aq).length=_;rw[dh]
  ·rfl
 have jI:(s.fJ c).aq.map (·.n)=s.aq.map (·.n):=by
  unfold St.fJ;split
  ·exact cr (fun x=>x.n==c) (fun x:Cn=>{x with gone:=true}) (·.n) (fun _=>rfl) s.aq
  ·rfl
 have jU:k<(s.fJ c).aq.length:=by omega
 refine⟨(s.fJ c).aq[k]'jU, ?_, ?_⟩
 ·have:=congrArg (fun l:List Int=>l[k]?) jI;simpa[List.getElem?_map,List.getElem?_eq_getElem jU,List.getElem?_eq_getElem hk]using this
 ·refine gL (G:=G) (cap:=cap) ?_ jU;rw[hlen];have e:({m with ov:=nk}:MV).cv= .slice (some ⟨g1,off,none⟩) s.aq.length cap:=Ic;rw[e]at hG;exact hG
def kj(p:Nat)(s:St)(c:Int)(m:MV)(g:List (Ln×Value))(w:World)(F:Ft)(k:Nat)(wr:World):Prop:=
 (k<=s.aq.findIdx (fun x=>x.n==c)∧Below w.heap.size w wr)∨((∃j,∃hj:j<s.aq.length,j<k∧(s.aq[j]'hj).n=c)∧wH p s c m g w F wr)
theorem kj.below(h:kj p s c m g w F k wr)(hb:Below wr.heap.size wr w'):kj p s c m g w F k w':=by
 rcases h with⟨h1,h2⟩|⟨h1,h2⟩
 ·exact Or.inl ⟨h1,h2.trans (hb.mono h2.size)⟩
 ·exact Or.inr ⟨h1,h2.below hb⟩
theorem kj.alloc(h:kj p s c m g w F k wr)(o:Obj):kj p s c m g w F k (wr.alloc o):=h.below ((ah _ _).alloc (ae _) _)
end Mr
section
open Go.RowKit aM Mr
variable{w w1:World}{F:Ft}
theorem Goes.part{A A' R:aM}{w2:World}{G:Ft}(h:Goes (aa A R) w F w1)(hs:xP A)(hG:A.holds w1 G)(bK:Goes A' w1 G w2):Goes (aa A' R) w F w2:=
 h.trans fun _ h'=>Goes.frame h' fun G' zF _=>by rw[hs w1 G' G zF hG];exact bK
theorem Goes.pieces{A R:aM}(h:Goes (aa A R) w F w1): ∃G H,A.holds w1 G∧R.holds w1 H∧(∀k,G k->F k∨w.heap.size<=k)∧(∀k,H k->F k∨w.heap.size<=k)∧ ∀k,G k-> ¬H k:=by obtain⟨F',⟨G,H,ha,hb,d,e⟩,o,n⟩:=h;exact⟨G,H,ha,hb,fun k hk=>n k ((e k).2 (.inl hk)),fun k hk=>n k ((e k).2 (.inr hk)),d⟩
end
namespace Mr
open Go.RowKit aM Mc
attribute [local go_sem] aL.ag
attribute [local go_sem] aL.ar
theorem hide{p:Prop}(h:p):Hid p:=h
def vZ(r:List Ln)(id:Int):List Ln:=(r.map (fun l=>({l with ids:=l.ids.filter (· !=id)}:Ln))).filter (fun l=> !l.ids.isEmpty)
theorem yT(r:List Ln)(l:Ln)(id:Int):vZ (r++ [l]) id=vZ r id++if(l.ids.filter (· !=id)).isEmpty then []else [⟨l.ten,l.ids.filter (· !=id)⟩]:=by
 unfold vZ;rw[aH,List.filter_append];congr 1;simp only[List.map_cons,List.map_nil];by_cases h:(l.ids.filter (· !=id)).isEmpty=true
 ·rw[if_pos h];simp[List.isEmpty_iff.1 h]
 ·rw[if_neg h];simp[h]
def mq(r:List Ln)(id:Int)(w:World)(ao:Option Addr)(n cp:Nat)(wr:World):Prop:= ∃g2:List (Ln×Value),g2.map (·.1)=vZ r id∧n=g2.length∧Goes (rX (.slice ao n cp) g2) w (fun _=>False) wr
def fo(r:List Ln)(id:Int)(ids:List Int)(w:World)(b:Nat)(o:Obj)(ao:Option Addr)(n cp:Nat)(dP:Option Addr)(n1 eQ:Nat)(wr:World):Prop:=
 ∃g2:List (Ln×Value),g2.map (·.1)=vZ r id∧n=g2.length∧n1=(ids.filter (· !=id)).length∧Goes (aa (inA (.slice dP n1 eQ) (ids.filter (· !=id))) (aa (rX (.slice ao n cp) g2) (blk b o))) w (fun _=>False) wr
theorem mq.below{r:List Ln}{id:Int}{w:World}{ao:Option Addr}{n cp:Nat}{wr:World}(h:mq r id w ao n cp wr):Below w.heap.size w wr:=by obtain⟨_,_,_,h⟩:=h;exact h.toBelow
section
variable{r:List Ln}{id:Int}{ids:List Int}{w:World}{b:Nat}{o:Obj}{ao:Option Addr}{n cp:Nat}{dP:Option Addr}{n1 eQ:Nat}{wr w2:World}
theorem fo.below(h:fo r id ids w b o ao n cp dP n1 eQ wr):Below w.heap.size w wr:=by obtain⟨_,_,_,_,h⟩:=h;exact h.toBelow
theorem fo.blk(h:fo r id ids w b o ao n cp dP n1 eQ wr):wr.heap[b]?=some o:=by obtain⟨g2,h1,h2,h3,h4⟩:=h;obtain⟨_,_,_,⟨_,_,_,hb,_⟩,_⟩:=h4.pieces;exact hb.1
theorem fo.more(h:fo r id ids w b o ao n cp dP n1 eQ wr){x:Int}(hx:(x !=id)=true){o':Obj}{G:Ft}(hG:(rowA 3 1 (.slice dP n1 eQ) n1 (flat mY (ids.filter (· !=id)))).holds wr G){cU:Option Addr}{gz:Nat}(bK:Goes (rowA 3 1 (.slice cU (n1+1) gz) (n1+1) (flat mY (ids.filter (· !=id))++ [.int .i64 x])) (wr.alloc o') G w2):fo r id (ids++ [x]) w b o ao n cp cU (n1+1) gz w2:=by
 obtain⟨g2,h1,h2,h3,h4⟩:=h;have e:(ids++ [x]).filter (· !=id)=ids.filter (· !=id)++ [x]:=by rw[List.filter_append];simp[hx]
 refine⟨g2,h1,h2,by rw[e,aN,<-h3];rfl, ?_⟩;have h5:=(h4.dt o').part (cZ _ _ _ _ _) (au (w:=wr) (by unfold inA;rw[<-h3];exact hG) ((ah _ _).alloc (ae _) _)) bK;refine h5.eq ?_;rw[e];unfold inA;rw[dL,aN,<-h3];rfl
theorem fo.out{l:Ln}(h:fo r id l.ids w b o ao n cp dP 0 eQ wr):mq (r++ [l]) id w ao n cp wr:=by obtain⟨g2,h1,h2,h3,h4⟩:=h;refine⟨g2, ?_,h2,((h4.eq (cA _ _)).drop).drop⟩;rw[yT,if_pos (List.isEmpty_iff.2 (List.eq_nil_of_length_eq_zero h3.symm)),List.append_nil];exact h1
theorem fo.ring(h:fo r id ids w b o ao n cp dP n1 eQ wr): ∃g2 G,n=g2.length∧(rowA 176 2 (.slice ao n cp) n (flat eN g2)).holds wr G:=by obtain⟨g2,h1,h2,h3,h4⟩:=h;obtain⟨G,_,hG,_⟩:=(h4.eq (show _=aa (rowA 176 2 (.slice ao n cp) g2.length (flat eN g2)) (aa (inA (.slice dP n1 eQ) (ids.filter (· !=id))) (aa (all (fun x=>inA x.2 x.1.ids) g2) (aM.blk b o)))by unfold rX;ac_rfl)).pieces;rw[<-h2]at hG;exact⟨g2,G,h2,hG⟩
