import Derived.Test.YtffamlbkmjmipaaGreatDoorC12
import Derived.OwnWalk
set_option maxHeartbeats 8000000
set_option maxRecDepth 100000
namespace Go.Proofs.YtffamlbkmjmipaaGreatDoor
open _root_.Go.Proofs.Tryz
section
open Go.RowKit aJ
namespace Goes
variable{A B:aJ}{w w1 w2:World}{F:Ft}
theorem toBelow(h:Goes A w (fun _=>False) w1):Below w.heap.size w w1:=by obtain⟨_,_,o,_⟩:=h;exact o.toBelow (fun _ h=>h.elim) (af _)
theorem fresh(h:Goes A w F w1)(h':Goes B w1 (fun _=>False) w2):Goes (aa B A) w F w2:=by
 refine h.trans fun F' ha=> ?_;have:=frame (A:=emp) (A':=B) (B:=A) (w':=w2) ((nx A).symm▸ha) (fun G hG _=> ?_)
 ·exact this
 ·obtain⟨G',hb,o,n⟩:=h';have e:G=fun _=>False:=funext fun k=>propext ⟨fun h=>hG k h,False.elim⟩;subst e;exact⟨G',hb,o,n⟩
theorem only(h:Goes A w F w1):Only F w w1:=by obtain⟨_,_,o,_⟩:=h;exact o
theorem facts(h:Goes A w F w1): ∃F',A.holds w1 F':=by obtain⟨F',ha,_⟩:=h;exact⟨F',ha⟩
theorem fact{φ:Prop}(h:Goes A w F w1)(hφ:φ):Goes (aa (aJ.fact φ) A) w F w1:=h.mono fun F' ha=>(CM φ A w1 F').2 ⟨hφ,ha⟩
theorem ex{α:Type}{A:α->aJ}(x:α)(h:Goes (A x) w F w1):Goes (aJ.ex A) w F w1:=h.mono fun _ ha=>⟨x,ha⟩
end Goes
end
namespace Mr
open Go.RowKit aJ Mc
attribute [local go_sem] aG.ae
attribute [local go_sem] aG.ag
theorem Wm:(prog.info? 51).map (fun i=>(i.zero,i.size,i.bytes))=some (some (.agg #[.int .i64 0, .string ⟨#[]⟩]),2,24):=by kernel_rfl
theorem Wl:(prog.info? 166).map (fun i=>(i.zero,i.size,i.bytes))=some (some (.agg #[.int .i64 0, .string ⟨#[]⟩, .bool false, .bool false]),4,32):=by kernel_rfl
def Upd(p:Nat)(s':St)(w:World)(F:Ft)(e:Ending)(w':World):Prop:=e= .returned (.tuple #[])∧Goes (KJ p s') w F w'
theorem P6{p:Nat}{s:St}{w:World}{F:Ft}(h:(KJ p s).holds w F): ∃m g,g.map (·.1)=s.ring∧(gD p s m g).holds w F:=by obtain⟨m,g,h⟩:=h;obtain⟨hr,h⟩:=(CM _ _ _ _).1 h;exact⟨m,g,hr,h⟩
theorem KL{p:Nat}{s:St}{m:MV}{g:List (Ln×Value)}{w w':World}{F:Ft}(hr:g.map (·.1)=s.ring)(h:Goes (gD p s m g) w F w'):Goes (KJ p s) w F w':=
 Goes.ex m (Goes.ex g (h.fact hr))
theorem BB(p:Nat)(s:St)(m:MV)(g:List (Ln×Value)):gD p s m g=aa (Rg m.cv s.aq) (aa (zC p s m) (aa (fc m.rv s.reqs) (aa (YD m.av s.ah) (aa (XC m.gv g) (aa (inA m.wv s.wait) (gZ m.ov s.out)))))):=by unfold gD;ac_rfl
theorem nQ{e:TypeId}{size n:Nat}{v:Value}{xs:List Value}{w:World}{G H:Ft}(h1:(rowA e size v n xs).holds w G)(h2:(rowA e size v n xs).holds w H):G=H:=by
 rcases h1.2 with⟨a,b,c⟩|⟨g,off,cap,cur,a,b,_⟩
 ·rcases h2.2 with⟨a',b',c'⟩|⟨g',rU,bP,R7,a',b',_⟩
  ·exact funext fun k=>propext ⟨fun h=>(c k h).elim,fun h=>(c' k h).elim⟩
  ·rw[a]at a';cases a'
 ·rcases h2.2 with⟨a',b',c'⟩|⟨g',rU,bP,R7,a',b',_⟩
  ·rw[a]at a';cases a'
  ·rw[a]at a';cases a';exact funext fun k=>propext ((b k).trans (b' k).symm)
def Ys(A:aJ):Prop:= ∀(w:World) (G H:Ft),A.holds w G->A.holds w H->G=H
theorem kY(e:TypeId)(size:Nat)(v:Value)(n:Nat)(xs:List Value):Ys (rowA e size v n xs):=fun _ _ _=>nQ
def Said(p:Nat)(s:St)(m:MV)(x:Int×Bs)(w:World)(F:Ft)(e:Ending)(w':World):Prop:=e= .returned (.tuple #[])∧ ∃KY,Goes (aa (zC p s {m with ov:=KY}) (gZ KY (s.out++ [x]))) w F w'
theorem TJ{p:Nat}{s:St}{m:MV}{w w2:World}{F:Ft}{v:Value}{x:Int×Bs}(fI:(aa (zC p s m) (gZ m.ov s.out)).holds w F)(h: ∀G,(gZ m.ov s.out).holds w G->Goes (rowA 51 2 v (s.out.length+1) (flat DV s.out++DV x)) w G w2):Goes (aa (zC p s {m with ov:=v}) (gZ v (s.out++ [x]))) w F (w2.setCell ⟨p,11,none⟩ v):=by
 rw[bq]at fI;have h1:Goes (aa (gZ v (s.out++ [x])) (zC p s m)) w F w2:=
  Goes.frame fI (fun G hG _=>(h G hG).eq (by unfold gZ;rw[nC,aH];rfl))
 exact(h1.eq (bq _ _)).store 11 v
theorem QL(p:Nat)(c:Int)(t:Bs)(s:St)(m:MV)(w:World)(F:Ft)(fI:(aa (zC p s m) (gZ m.ov s.out)).holds w F)(hlen:s.out.length<=33554432)(hs:t.length<=1048576):Calls prog 102 #[.pointer (some ⟨p,0,none⟩), .int .i64 c, .string ⟨t.toArray⟩] w (Said p s m (c,t) w F):=by
 obtain⟨i0,hi,mz,ja,jK⟩:=info_parts Wm;have hblk:=(cK fI).1;have c11:w.cell? ⟨p,11,none⟩=some m.ov:=dC hblk;have f11:w.frozen? ⟨p,11,none⟩=false:=pR hblk;have Kr:p<w.heap.size:=(cC.1 hblk).1;obtain⟨G,hG,J4⟩: ∃G,(gZ m.ov s.out).holds w G∧ ¬G p:=by obtain⟨G,H,ha,hb,d,e⟩:=fI;exact⟨H,hb,d p ((ha.2 p).2 rfl)⟩
 have HO:Hid ((aa (zC p s m) (gZ m.ov s.out)).holds w F):=fI;have HG:Hid ((gZ m.ov s.out).holds w G):=hG;have HP:Hid (¬G p):=J4;have yX:Hid (∀w:World,Calls prog 58 #[.string ⟨t.toArray⟩] w fun e w'=>e= .returned (.string ⟨(aG.line t).toArray⟩)∧Below w.heap.size w w'):=fun w=>aG.Hk ⟨t.toArray⟩ w hs;have HSL:Hid (aG.line t=aG.line t):=rfl;clear fI hG J4 hblk;go_enter func102,ntmps102;go_wp2_with fail
 go_region_law (first
   |(refine mq _ (by rfl) _ _ _ (by rfl) 51 i0 _ 2 24 underlying32 hi mz ja jK rfl (by omega) (F:=G) m.ov s.out.length (flat DV s.out) (by rfl) (aI (w:=w1) (aI (w:=w.drew) (w':=w1) HG.out bT) ((au _ _).alloc (af _) _)) ⟨w1.heap.size,0,none⟩ 1 1 [.int .i64 c, .string ⟨(aG.line t).toArray⟩] (by rfl) (by rfl) (World.news_of_block (cs:= #[.int .i64 c, .string ⟨(aG.line t).toArray⟩]) (t:=51) (fr:=(0,0)) (heap_alloc_new w1 _)) (by simp[Value.oneCell']) (by unfold maxLen;omega) (by omega) ?_;intro dK pS w2 bE;have Zb:w2.cell? ⟨p,11,none⟩=some m.ov:=(by rw[bE.only.cell (p:=⟨p,11,none⟩) (by simp;omega) HP.out,World.cell?_alloc_past _ _ _ ZF];exact uq);have Gn:w2.frozen? ⟨p,11,none⟩=false:=(by rw[bE.only.frozen (p:=⟨p,11,none⟩) (by simp;omega) HP.out,World.frozen?_alloc_past _ _ _ ZF];exact Zk))
   |(go_simp;go_at_call 58;refine(yX.out _).mono ?_;rintro e w1⟨rfl,bT⟩;have ZF:p<w1.heap.size:=bD Kr bT.size;have uq:w1.cell? ⟨p,11,none⟩=some m.ov:=(by rw[bT.cell (p:=⟨p,11,none⟩) Kr];exact c11);have Zk:w1.frozen? ⟨p,11,none⟩=false:=(by rw[bT.frozen (p:=⟨p,11,none⟩) Kr];exact f11)))
 all_goals go_end0;refine⟨rfl,_,TJ (x:=(c,t)) HO.out (fun G' Uq=> ?_)⟩;have e:G'=G:=nQ Uq HG.out;subst e;exact(((Goes.refl Uq).drew.below bT).dA _).trans (fun F' pW=>by rw[nQ pW (aI (aI (w:=w.drew) (w':=w1) HG.out bT) ((au _ _).alloc (af _) _))];exact bE)
def P5(s:St)(m:MV)(g:List (Ln×Value)):aJ:=aa (fc m.rv s.reqs) (aa (YD m.av s.ah) (aa (XC m.gv g) (aa (inA m.wv s.wait) (Rg m.cv s.aq))))
theorem Aj(p:Nat)(s:St)(m:MV)(g:List (Ln×Value)):gD p s m g=aa (aa (zC p s m) (gZ m.ov s.out)) (P5 s m g):=by unfold gD P5;ac_rfl
theorem QK(p:Nat)(c:Int)(t:Bs)(s:St)(m:MV)(g:List (Ln×Value))(w:World)(F:Ft)(h:(gD p s m g).holds w F)(hlen:s.out.length<=33554432)(hs:t.length<=1048576):Calls prog 102 #[.pointer (some ⟨p,0,none⟩), .int .i64 c, .string ⟨t.toArray⟩] w fun e w'=>e= .returned (.tuple #[])∧ ∃KY,Goes (gD p (s.say c t) {m with ov:=KY} g) w F w':=by
 rw[Aj]at h;obtain⟨G,H,ha,hb,d,e⟩:=h;refine(QL p c t s m w G ha hlen hs).mono ?_;rintro e' w'⟨rfl,KY,hg⟩;refine⟨rfl,KY, ?_⟩;rw[Aj];exact Goes.frame (A:=aa (zC p s m) (gZ m.ov s.out)) (B:=P5 s m g) ⟨G,H,ha,hb,d,e⟩ (fun G' Uq hs'=>by
  have:G'=G:=by obtain⟨X,Y,hx,hy,_,exy⟩:=ha;obtain⟨X',Y',kI,NY,_,aav⟩:=Uq;have e1:Y'=Y:=nQ NY hy;funext k;rw[propext (exy k),propext (aav k),e1,propext (hx.2 k),propext (kI.2 k)]
  subst this;exact hg)
theorem nU(p:Nat)(c:Int)(t:Bs)(s:St)(w:World)(F:Ft)(hm:(KJ p s).holds w F)(hlen:s.out.length<=33554432)(hs:t.length<=1048576):Calls prog 102 #[.pointer (some ⟨p,0,none⟩), .int .i64 c, .string ⟨t.toArray⟩] w (Upd p (s.say c t) w F):=by obtain⟨m,g,hr,fI⟩:=P6 hm;refine(QK p c t s m g w F fI hlen hs).mono ?_;rintro e w'⟨rfl,KY,hg⟩;exact⟨rfl,KL (s:=s.say c t) hr hg⟩
end Mr
namespace Mr
open Go.RowKit aJ Mc
attribute [local go_sem] aG.ae aG.ag
variable{w wr w':World}{p k:Nat}{s:St}{m:MV}{g:List (Ln×Value)}{c:Int}{F:Ft}
theorem Vy(hm:MF w p s m g): ∃ao cap G,m.cv= .slice ao s.aq.length cap∧w.cell? ⟨p,10,none⟩=some (.slice ao s.aq.length cap)∧Hid ((Rg (.slice ao s.aq.length cap) s.aq).holds w G)∧Hid (0<s.aq.length-> ∃g off,ao=some ⟨g,off,none⟩):=by have c7:w.cell? ⟨p,10,none⟩=some m.cv:=hm.cell 10;obtain⟨G,hG⟩:=hm.cn;obtain⟨ao,cap,hv,cX,bQ⟩:=cE hG;rw[hv]at hG c7;exact⟨ao,cap,G,hv,c7,hG,bQ⟩
def B5(p:Nat)(s:St)(c:Int)(m:MV)(g:List (Ln×Value))(w:World)(F:Ft)(wr:World):Prop:= ∃KY,Goes (gD p (s.fp c) {m with ov:=KY} g) w F wr
theorem B5.refl(h:(gD p s m g).holds w F)(hb:Below w.heap.size w wr)(e:s.fp c=s):B5 p s c m g w F wr:=
 ⟨m.ov,by rw[e];exact(Goes.refl h).below hb⟩
theorem B5.below(h:B5 p s c m g w F wr)(hb:Below wr.heap.size wr w'):B5 p s c m g w F w':=by obtain⟨KY,h⟩:=h;exact⟨KY,h.below hb⟩
theorem B5.cells(h:B5 p s c m g w F wr)(hr:g.map (·.1)=s.ring){g1 off cap:Nat}(SI:m.cv= .slice (some ⟨g1,off,none⟩) s.aq.length cap)(hk:k<s.aq.length): ∃x:Cn,x.n=(s.aq[k]'hk).n∧wr.cell? ⟨g1,off+k*4,none⟩=some (.int .i64 x.n)∧wr.cell? ⟨g1,off+k*4+1,none⟩=some (.string ⟨x.rest.toArray⟩)∧wr.cell? ⟨g1,off+k*4+2,none⟩=some (.bool x.drains)∧wr.cell? ⟨g1,off+k*4+3,none⟩=some (.bool x.gone):=by
 obtain⟨KY,h⟩:=h;obtain⟨F',pW⟩:=h.facts;have Xx:=UU (s:=s.fp c) (by rw[hr,(St.vS (s:=s) c).2.2.1]) pW;obtain⟨G,hG⟩:=Xx.cn;have hlen:(s.fp c).aq.length=s.aq.length:=by
  unfold St.fp;split
  ·show(aK _ _ s.aq).length=_;rw[cV]
  ·rfl
 have jq:(s.fp c).aq.map (·.n)=s.aq.map (·.n):=by
  unfold St.fp;split
  ·exact bn (fun x=>x.n==c) (fun x:Cn=>{x with gone:=true}) (·.n) (fun _=>rfl) s.aq
  ·rfl
 have mQ:k<(s.fp c).aq.length:=by omega
 refine⟨(s.fp c).aq[k]'mQ, ?_, ?_⟩
 ·have:=congrArg (fun l:List Int=>l[k]?) jq;simpa[List.getElem?_map,List.getElem?_eq_getElem mQ,List.getElem?_eq_getElem hk]using this
 ·refine Cx (G:=G) (cap:=cap) ?_ mQ;rw[hlen];have e:({m with ov:=KY}:MV).cv= .slice (some ⟨g1,off,none⟩) s.aq.length cap:=SI;rw[e]at hG;exact hG
def s6(p:Nat)(s:St)(c:Int)(m:MV)(g:List (Ln×Value))(w:World)(F:Ft)(k:Nat)(wr:World):Prop:=
 (k<=s.aq.findIdx (fun x=>x.n==c)∧Below w.heap.size w wr)∨((∃j,∃hj:j<s.aq.length,j<k∧(s.aq[j]'hj).n=c)∧B5 p s c m g w F wr)
theorem s6.below(h:s6 p s c m g w F k wr)(hb:Below wr.heap.size wr w'):s6 p s c m g w F k w':=by
 rcases h with⟨h1,h2⟩|⟨h1,h2⟩
 ·exact Or.inl ⟨h1,h2.trans (hb.mono h2.size)⟩
 ·exact Or.inr ⟨h1,h2.below hb⟩
theorem s6.alloc(h:s6 p s c m g w F k wr)(o:Obj):s6 p s c m g w F k (wr.alloc o):=h.below ((au _ _).alloc (af _) _)
end Mr
section
open Go.RowKit aJ Mr
variable{w w1:World}{F:Ft}
theorem Goes.part{A A' R:aJ}{w2:World}{G:Ft}(h:Goes (aa A R) w F w1)(hs:Ys A)(hG:A.holds w1 G)(bE:Goes A' w1 G w2):Goes (aa A' R) w F w2:=
 h.trans fun _ h'=>Goes.frame h' fun G' Uq _=>by rw[hs w1 G' G Uq hG];exact bE
theorem Goes.pieces{A R:aJ}(h:Goes (aa A R) w F w1): ∃G H,A.holds w1 G∧R.holds w1 H∧(∀k,G k->F k∨w.heap.size<=k)∧(∀k,H k->F k∨w.heap.size<=k)∧ ∀k,G k-> ¬H k:=by obtain⟨F',⟨G,H,ha,hb,d,e⟩,o,n⟩:=h;exact⟨G,H,ha,hb,fun k hk=>n k ((e k).2 (.inl hk)),fun k hk=>n k ((e k).2 (.inr hk)),d⟩
end
namespace Mr
open Go.RowKit aJ Mc
attribute [local go_sem] aG.ae
attribute [local go_sem] aG.ag
theorem hide{p:Prop}(h:p):Hid p:=h
def Dt(r:List Ln)(id:Int):List Ln:=(r.map (fun l=>({l with ids:=l.ids.filter (· !=id)}:Ln))).filter (fun l=> !l.ids.isEmpty)
theorem GQ(r:List Ln)(l:Ln)(id:Int):Dt (r++ [l]) id=Dt r id++if(l.ids.filter (· !=id)).isEmpty then []else [⟨l.ten,l.ids.filter (· !=id)⟩]:=by
 unfold Dt;rw[aD,List.filter_append];congr 1;simp only[List.map_cons,List.map_nil];by_cases h:(l.ids.filter (· !=id)).isEmpty=true
 ·rw[if_pos h];simp[List.isEmpty_iff.1 h]
 ·rw[if_neg h];simp[h]
def AH(r:List Ln)(id:Int)(w:World)(ao:Option Addr)(n cp:Nat)(wr:World):Prop:= ∃g2:List (Ln×Value),g2.map (·.1)=Dt r id∧n=g2.length∧Goes (XC (.slice ao n cp) g2) w (fun _=>False) wr
def jg(r:List Ln)(id:Int)(ids:List Int)(w:World)(b:Nat)(o:Obj)(ao:Option Addr)(n cp:Nat)(iQ:Option Addr)(n1 mn:Nat)(wr:World):Prop:=
 ∃g2:List (Ln×Value),g2.map (·.1)=Dt r id∧n=g2.length∧n1=(ids.filter (· !=id)).length∧Goes (aa (inA (.slice iQ n1 mn) (ids.filter (· !=id))) (aa (XC (.slice ao n cp) g2) (blk b o))) w (fun _=>False) wr
theorem AH.below{r:List Ln}{id:Int}{w:World}{ao:Option Addr}{n cp:Nat}{wr:World}(h:AH r id w ao n cp wr):Below w.heap.size w wr:=by obtain⟨_,_,_,h⟩:=h;exact h.toBelow
section
variable{r:List Ln}{id:Int}{ids:List Int}{w:World}{b:Nat}{o:Obj}{ao:Option Addr}{n cp:Nat}{iQ:Option Addr}{n1 mn:Nat}{wr w2:World}
theorem jg.below(h:jg r id ids w b o ao n cp iQ n1 mn wr):Below w.heap.size w wr:=by obtain⟨_,_,_,_,h⟩:=h;exact h.toBelow
theorem jg.blk(h:jg r id ids w b o ao n cp iQ n1 mn wr):wr.heap[b]?=some o:=by obtain⟨g2,h1,h2,h3,h4⟩:=h;obtain⟨_,_,_,⟨_,_,_,hb,_⟩,_⟩:=h4.pieces;exact hb.1
theorem jg.more(h:jg r id ids w b o ao n cp iQ n1 mn wr){x:Int}(hx:(x !=id)=true){o':Obj}{G:Ft}(hG:(rowA 3 1 (.slice iQ n1 mn) n1 (flat jt (ids.filter (· !=id)))).holds wr G){dK:Option Addr}{pS:Nat}(bE:Goes (rowA 3 1 (.slice dK (n1+1) pS) (n1+1) (flat jt (ids.filter (· !=id))++ [.int .i64 x])) (wr.alloc o') G w2):jg r id (ids++ [x]) w b o ao n cp dK (n1+1) pS w2:=by
 obtain⟨g2,h1,h2,h3,h4⟩:=h;have e:(ids++ [x]).filter (· !=id)=ids.filter (· !=id)++ [x]:=by rw[List.filter_append];simp[hx]
 refine⟨g2,h1,h2,by rw[e,aH,<-h3];rfl, ?_⟩;have h5:=(h4.dA o').part (kY _ _ _ _ _) (aI (w:=wr) (by unfold inA;rw[<-h3];exact hG) ((au _ _).alloc (af _) _)) bE;refine h5.eq ?_;rw[e];unfold inA;rw[nC,aH,<-h3];rfl
theorem jg.out{l:Ln}(h:jg r id l.ids w b o ao n cp iQ 0 mn wr):AH (r++ [l]) id w ao n cp wr:=by obtain⟨g2,h1,h2,h3,h4⟩:=h;refine⟨g2, ?_,h2,((h4.eq (bq _ _)).drop).drop⟩;rw[GQ,if_pos (List.isEmpty_iff.2 (List.eq_nil_of_length_eq_zero h3.symm)),List.append_nil];exact h1
theorem jg.ring(h:jg r id ids w b o ao n cp iQ n1 mn wr): ∃g2 G,n=g2.length∧(rowA 176 2 (.slice ao n cp) n (flat Te g2)).holds wr G:=by obtain⟨g2,h1,h2,h3,h4⟩:=h;obtain⟨G,_,hG,_⟩:=(h4.eq (show _=aa (rowA 176 2 (.slice ao n cp) g2.length (flat Te g2)) (aa (inA (.slice iQ n1 mn) (ids.filter (· !=id))) (aa (all (fun x=>inA x.2 x.1.ids) g2) (aJ.blk b o)))by unfold XC;ac_rfl)).pieces;rw[<-h2]at hG;exact⟨g2,G,h2,hG⟩
