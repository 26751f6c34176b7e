import Derived.Test.YtffamlbkmjmipaaGreatDoorC12
import Derived.OwnWalk
set_option maxHeartbeats 8000000
set_option maxRecDepth 100000
namespace Go.Proofs.YtffamlbkmjmipaaGreatDoor
open _root_.Go.Proofs.Tryz
section
open Go.RowKit aD
namespace Goes
variable{A B:aD}{w w1 w2:World}{F:Ft}
theorem toBelow(h:Goes A w (fun _=>False) w1):Below w.heap.size w w1:=by obtain⟨_,_,o,_⟩:=h;exact o.toBelow (fun _ h=>h.elim) (af _)
theorem fresh(h:Goes A w F w1)(h':Goes B w1 (fun _=>False) w2):Goes (aa B A) w F w2:=by
 refine h.trans fun F' ha=> ?_;have:=frame (A:=emp) (A':=B) (B:=A) (w':=w2) ((iy A).symm▸ha) (fun G hG _=> ?_)
 ·exact this
 ·obtain⟨G',hb,o,n⟩:=h';have e:G=fun _=>False:=funext fun k=>propext ⟨fun h=>hG k h,False.elim⟩;subst e;exact⟨G',hb,o,n⟩
theorem only(h:Goes A w F w1):Only F w w1:=by obtain⟨_,_,o,_⟩:=h;exact o
theorem facts(h:Goes A w F w1): ∃F',A.holds w1 F':=by obtain⟨F',ha,_⟩:=h;exact⟨F',ha⟩
theorem fact{φ:Prop}(h:Goes A w F w1)(hφ:φ):Goes (aa (aD.fact φ) A) w F w1:=h.mono fun F' ha=>(zy φ A w1 F').2 ⟨hφ,ha⟩
theorem ex{α:Type}{A:α->aD}(x:α)(h:Goes (A x) w F w1):Goes (aD.ex A) w F w1:=h.mono fun _ ha=>⟨x,ha⟩
end Goes
end
namespace Mr
open Go.RowKit aD Mc
attribute [local go_sem] aP.ae
attribute [local go_sem] aP.ah
theorem JY:(prog.info? 51).map (fun i=>(i.zero,i.size,i.bytes))=some (some (.agg #[.int .i64 0, .string ⟨#[]⟩]),2,24):=by kernel_rfl
theorem QL:(prog.info? 166).map (fun i=>(i.zero,i.size,i.bytes))=some (some (.agg #[.int .i64 0, .string ⟨#[]⟩, .bool false, .bool false]),4,32):=by kernel_rfl
def Upd(p:Nat)(s':St)(w:World)(F:Ft)(e:Ending)(w':World):Prop:=e= .returned (.tuple #[])∧Goes (FT p s') w F w'
theorem Kt{p:Nat}{s:St}{w:World}{F:Ft}(h:(FT p s).holds w F): ∃m g,g.map (·.1)=s.ring∧(fS p s m g).holds w F:=by obtain⟨m,g,h⟩:=h;obtain⟨hr,h⟩:=(zy _ _ _ _).1 h;exact⟨m,g,hr,h⟩
theorem FU{p:Nat}{s:St}{m:MV}{g:List (Ln×Value)}{w w':World}{F:Ft}(hr:g.map (·.1)=s.ring)(h:Goes (fS p s m g) w F w'):Goes (FT p s) w F w':=
 Goes.ex m (Goes.ex g (h.fact hr))
theorem xW(p:Nat)(s:St)(m:MV)(g:List (Ln×Value)):fS p s m g=aa (LO m.cv s.ak) (aa (vv p s m) (aa (dP m.rv s.reqs) (aa (SL m.av s.ag) (aa (PB m.gv g) (aa (inA m.wv s.wait) (dT m.ov s.out)))))):=by unfold fS;ac_rfl
theorem l9{e:TypeId}{size n:Nat}{v:Value}{xs:List Value}{w:World}{G H:Ft}(h1:(rowA e size v n xs).holds w G)(h2:(rowA e size v n xs).holds w H):G=H:=by
 rcases h1.2 with⟨a,b,c⟩|⟨g,off,cap,cur,a,b,_⟩
 ·rcases h2.2 with⟨a',b',c'⟩|⟨g',nG,bO,IQ,a',b',_⟩
  ·exact funext fun k=>propext ⟨fun h=>(c k h).elim,fun h=>(c' k h).elim⟩
  ·rw[a]at a';cases a'
 ·rcases h2.2 with⟨a',b',c'⟩|⟨g',nG,bO,IQ,a',b',_⟩
  ·rw[a]at a';cases a'
  ·rw[a]at a';cases a';exact funext fun k=>propext ((b k).trans (b' k).symm)
def SK(A:aD):Prop:= ∀(w:World) (G H:Ft),A.holds w G->A.holds w H->G=H
theorem pB(e:TypeId)(size:Nat)(v:Value)(n:Nat)(xs:List Value):SK (rowA e size v n xs):=fun _ _ _=>l9
def Said(p:Nat)(s:St)(m:MV)(x:Int×Bs)(w:World)(F:Ft)(e:Ending)(w':World):Prop:=e= .returned (.tuple #[])∧ ∃F0,Goes (aa (vv p s {m with ov:=F0}) (dT F0 (s.out++ [x]))) w F w'
theorem Od{p:Nat}{s:St}{m:MV}{w w2:World}{F:Ft}{v:Value}{x:Int×Bs}(eQ:(aa (vv p s m) (dT m.ov s.out)).holds w F)(h: ∀G,(dT m.ov s.out).holds w G->Goes (rowA 51 2 v (s.out.length+1) (flat o8 s.out++o8 x)) w G w2):Goes (aa (vv p s {m with ov:=v}) (dT v (s.out++ [x]))) w F (w2.setCell ⟨p,11,none⟩ v):=by
 rw[aZ]at eQ;have h1:Goes (aa (dT v (s.out++ [x])) (vv p s m)) w F w2:=
  Goes.frame eQ (fun G hG _=>(h G hG).eq (by unfold dT;rw[jU,aC];rfl))
 exact(h1.eq (aZ _ _)).store 11 v
theorem La(p:Nat)(c:Int)(t:Bs)(s:St)(m:MV)(w:World)(F:Ft)(eQ:(aa (vv p s m) (dT m.ov s.out)).holds w F)(hlen:s.out.length<=33554432)(hs:t.length<=1048576):Calls prog 102 #[.pointer (some ⟨p,0,none⟩), .int .i64 c, .string ⟨t.toArray⟩] w (Said p s m (c,t) w F):=by
 obtain⟨i0,hi,nV,j0,kC⟩:=info_parts JY;have kR:=(bQ eQ).1;have c11:w.cell? ⟨p,11,none⟩=some m.ov:=b9 kR;have f11:w.frozen? ⟨p,11,none⟩=false:=BO kR;have Fy:p<w.heap.size:=(bZ.1 kR).1;obtain⟨G,hG,Fb⟩: ∃G,(dT m.ov s.out).holds w G∧ ¬G p:=by obtain⟨G,H,ha,hb,d,e⟩:=eQ;exact⟨H,hb,d p ((ha.2 p).2 rfl)⟩
 have HO:Hid ((aa (vv p s m) (dT m.ov s.out)).holds w F):=eQ;have HG:Hid ((dT m.ov s.out).holds w G):=hG;have HP:Hid (¬G p):=Fb;have uH:Hid (∀w:World,Calls prog 58 #[.string ⟨t.toArray⟩] w fun e w'=>e= .returned (.string ⟨(aP.line t).toArray⟩)∧Below w.heap.size w w'):=fun w=>aP.C2 ⟨t.toArray⟩ w hs;have HSL:Hid (aP.line t=aP.line t):=rfl;clear eQ hG Fb kR;go_enter func102,ntmps102;go_wp2_with fail
 go_region_law (first
   |(refine rS _ (by rfl) _ _ _ (by rfl) 51 i0 _ 2 24 underlying32 hi nV j0 kC rfl (by omega) (F:=G) m.ov s.out.length (flat o8 s.out) (by rfl) (aF (w:=w1) (aF (w:=w.drew) (w':=w1) HG.out bP) ((ar _ _).alloc (af _) _)) ⟨w1.heap.size,0,none⟩ 1 1 [.int .i64 c, .string ⟨(aP.line t).toArray⟩] (by rfl) (by rfl) (World.news_of_block (cs:= #[.int .i64 c, .string ⟨(aP.line t).toArray⟩]) (t:=51) (fr:=(0,0)) (heap_alloc_new w1 _)) (by simp[Value.oneCell']) (by unfold maxLen;omega) (by omega) ?_;intro dz mJ w2 bz;have Nc:w2.cell? ⟨p,11,none⟩=some m.ov:=(by rw[bz.only.cell (p:=⟨p,11,none⟩) (by simp;omega) HP.out,World.cell?_alloc_past _ _ _ Uj];exact mA);have xr:w2.frozen? ⟨p,11,none⟩=false:=(by rw[bz.only.frozen (p:=⟨p,11,none⟩) (by simp;omega) HP.out,World.frozen?_alloc_past _ _ _ Uj];exact Cl))
   |(go_simp;go_at_call 58;refine(uH.out _).mono ?_;rintro e w1⟨rfl,bP⟩;have Uj:p<w1.heap.size:=bE Fy bP.size;have mA:w1.cell? ⟨p,11,none⟩=some m.ov:=(by rw[bP.cell (p:=⟨p,11,none⟩) Fy];exact c11);have Cl:w1.frozen? ⟨p,11,none⟩=false:=(by rw[bP.frozen (p:=⟨p,11,none⟩) Fy];exact f11)))
 all_goals go_end0;refine⟨rfl,_,Od (x:=(c,t)) HO.out (fun G' Jl=> ?_)⟩;have e:G'=G:=l9 Jl HG.out;subst e;exact(((Goes.refl Jl).drew.below bP).iD _).trans (fun F' nk=>by rw[l9 nk (aF (aF (w:=w.drew) (w':=w1) HG.out bP) ((ar _ _).alloc (af _) _))];exact bz)
def Ks(s:St)(m:MV)(g:List (Ln×Value)):aD:=aa (dP m.rv s.reqs) (aa (SL m.av s.ag) (aa (PB m.gv g) (aa (inA m.wv s.wait) (LO m.cv s.ak))))
theorem wF(p:Nat)(s:St)(m:MV)(g:List (Ln×Value)):fS p s m g=aa (aa (vv p s m) (dT m.ov s.out)) (Ks s m g):=by unfold fS Ks;ac_rfl
theorem K9(p:Nat)(c:Int)(t:Bs)(s:St)(m:MV)(g:List (Ln×Value))(w:World)(F:Ft)(h:(fS p s m g).holds w F)(hlen:s.out.length<=33554432)(hs:t.length<=1048576):Calls prog 102 #[.pointer (some ⟨p,0,none⟩), .int .i64 c, .string ⟨t.toArray⟩] w fun e w'=>e= .returned (.tuple #[])∧ ∃F0,Goes (fS p (s.say c t) {m with ov:=F0} g) w F w':=by
 rw[wF]at h;obtain⟨G,H,ha,hb,d,e⟩:=h;refine(La p c t s m w G ha hlen hs).mono ?_;rintro e' w'⟨rfl,F0,hg⟩;refine⟨rfl,F0, ?_⟩;rw[wF];exact Goes.frame (A:=aa (vv p s m) (dT m.ov s.out)) (B:=Ks s m g) ⟨G,H,ha,hb,d,e⟩ (fun G' Jl hs'=>by
  have:G'=G:=by obtain⟨X,Y,hx,hy,_,exy⟩:=ha;obtain⟨X',Y',jL,JU,_,WB⟩:=Jl;have e1:Y'=Y:=l9 JU hy;funext k;rw[propext (exy k),propext (WB k),e1,propext (hx.2 k),propext (jL.2 k)]
  subst this;exact hg)
theorem mi(p:Nat)(c:Int)(t:Bs)(s:St)(w:World)(F:Ft)(hm:(FT p s).holds w F)(hlen:s.out.length<=33554432)(hs:t.length<=1048576):Calls prog 102 #[.pointer (some ⟨p,0,none⟩), .int .i64 c, .string ⟨t.toArray⟩] w (Upd p (s.say c t) w F):=by obtain⟨m,g,hr,eQ⟩:=Kt hm;refine(K9 p c t s m g w F eQ hlen hs).mono ?_;rintro e w'⟨rfl,F0,hg⟩;exact⟨rfl,FU (s:=s.say c t) hr hg⟩
end Mr
namespace Mr
open Go.RowKit aD Mc
attribute [local go_sem] aP.ae aP.ah
variable{w wr w':World}{p k:Nat}{s:St}{m:MV}{g:List (Ln×Value)}{c:Int}{F:Ft}
theorem P8(hm:MF w p s m g): ∃ao cap G,m.cv= .slice ao s.ak.length cap∧w.cell? ⟨p,10,none⟩=some (.slice ao s.ak.length cap)∧Hid ((LO (.slice ao s.ak.length cap) s.ak).holds w G)∧Hid (0<s.ak.length-> ∃g off,ao=some ⟨g,off,none⟩):=by have c7:w.cell? ⟨p,10,none⟩=some m.cv:=hm.cell 10;obtain⟨G,hG⟩:=hm.cn;obtain⟨ao,cap,hv,cV,ck⟩:=cE hG;rw[hv]at hG c7;exact⟨ao,cap,G,hv,c7,hG,ck⟩
def yE(p:Nat)(s:St)(c:Int)(m:MV)(g:List (Ln×Value))(w:World)(F:Ft)(wr:World):Prop:= ∃F0,Goes (fS p (s.dR c) {m with ov:=F0} g) w F wr
theorem yE.refl(h:(fS p s m g).holds w F)(hb:Below w.heap.size w wr)(e:s.dR c=s):yE p s c m g w F wr:=
 ⟨m.ov,by rw[e];exact(Goes.refl h).below hb⟩
theorem yE.below(h:yE p s c m g w F wr)(hb:Below wr.heap.size wr w'):yE p s c m g w F w':=by obtain⟨F0,h⟩:=h;exact⟨F0,h.below hb⟩
theorem yE.cells(h:yE p s c m g w F wr)(hr:g.map (·.1)=s.ring){g1 off cap:Nat}(Jw:m.cv= .slice (some ⟨g1,off,none⟩) s.ak.length cap)(hk:k<s.ak.length): ∃x:Cn,x.n=(s.ak[k]'hk).n∧wr.cell? ⟨g1,off+k*4,none⟩=some (.int .i64 x.n)∧wr.cell? ⟨g1,off+k*4+1,none⟩=some (.string ⟨x.rest.toArray⟩)∧wr.cell? ⟨g1,off+k*4+2,none⟩=some (.bool x.drains)∧wr.cell? ⟨g1,off+k*4+3,none⟩=some (.bool x.gone):=by
 obtain⟨F0,h⟩:=h;obtain⟨F',nk⟩:=h.facts;have RU:=PD (s:=s.dR c) (by rw[hr,(St.sP (s:=s) c).2.2.1]) nk;obtain⟨G,hG⟩:=RU.cn;have hlen:(s.dR c).ak.length=s.ak.length:=by
  unfold St.dR;split
  ·show(aA _ _ s.ak).length=_;rw[cU]
  ·rfl
 have iT:(s.dR c).ak.map (·.n)=s.ak.map (·.n):=by
  unfold St.dR;split
  ·exact bp (fun x=>x.n==c) (fun x:Cn=>{x with gone:=true}) (·.n) (fun _=>rfl) s.ak
  ·rfl
 have lj:k<(s.dR c).ak.length:=by omega
 refine⟨(s.dR c).ak[k]'lj, ?_, ?_⟩
 ·have:=congrArg (fun l:List Int=>l[k]?) iT;simpa[List.getElem?_map,List.getElem?_eq_getElem lj,List.getElem?_eq_getElem hk]using this
 ·refine zj (G:=G) (cap:=cap) ?_ lj;rw[hlen];have e:({m with ov:=F0}:MV).cv= .slice (some ⟨g1,off,none⟩) s.ak.length cap:=Jw;rw[e]at hG;exact hG
def pP(p:Nat)(s:St)(c:Int)(m:MV)(g:List (Ln×Value))(w:World)(F:Ft)(k:Nat)(wr:World):Prop:=
 (k<=s.ak.findIdx (fun x=>x.n==c)∧Below w.heap.size w wr)∨((∃j,∃hj:j<s.ak.length,j<k∧(s.ak[j]'hj).n=c)∧yE p s c m g w F wr)
theorem pP.below(h:pP p s c m g w F k wr)(hb:Below wr.heap.size wr w'):pP p s c m g w F k w':=by
 rcases h with⟨h1,h2⟩|⟨h1,h2⟩
 ·exact Or.inl ⟨h1,h2.trans (hb.mono h2.size)⟩
 ·exact Or.inr ⟨h1,h2.below hb⟩
theorem pP.alloc(h:pP p s c m g w F k wr)(o:Obj):pP p s c m g w F k (wr.alloc o):=h.below ((ar _ _).alloc (af _) _)
end Mr
section
open Go.RowKit aD Mr
variable{w w1:World}{F:Ft}
theorem Goes.part{A A' R:aD}{w2:World}{G:Ft}(h:Goes (aa A R) w F w1)(hs:SK A)(hG:A.holds w1 G)(bz:Goes A' w1 G w2):Goes (aa A' R) w F w2:=
 h.trans fun _ h'=>Goes.frame h' fun G' Jl _=>by rw[hs w1 G' G Jl hG];exact bz
theorem Goes.pieces{A R:aD}(h:Goes (aa A R) w F w1): ∃G H,A.holds w1 G∧R.holds w1 H∧(∀k,G k->F k∨w.heap.size<=k)∧(∀k,H k->F k∨w.heap.size<=k)∧ ∀k,G k-> ¬H k:=by obtain⟨F',⟨G,H,ha,hb,d,e⟩,o,n⟩:=h;exact⟨G,H,ha,hb,fun k hk=>n k ((e k).2 (.inl hk)),fun k hk=>n k ((e k).2 (.inr hk)),d⟩
end
namespace Mr
open Go.RowKit aD Mc
attribute [local go_sem] aP.ae
attribute [local go_sem] aP.ah
theorem hide{p:Prop}(h:p):Hid p:=h
def Ar(r:List Ln)(id:Int):List Ln:=(r.map (fun l=>({l with ids:=l.ids.filter (· !=id)}:Ln))).filter (fun l=> !l.ids.isEmpty)
theorem tT(r:List Ln)(l:Ln)(id:Int):Ar (r++ [l]) id=Ar r id++if(l.ids.filter (· !=id)).isEmpty then []else [⟨l.ten,l.ids.filter (· !=id)⟩]:=by
 unfold Ar;rw[aB,List.filter_append];congr 1;simp only[List.map_cons,List.map_nil];by_cases h:(l.ids.filter (· !=id)).isEmpty=true
 ·rw[if_pos h];simp[List.isEmpty_iff.1 h]
 ·rw[if_neg h];simp[h]
def rU(r:List Ln)(id:Int)(w:World)(ao:Option Addr)(n cp:Nat)(wr:World):Prop:= ∃g2:List (Ln×Value),g2.map (·.1)=Ar r id∧n=g2.length∧Goes (PB (.slice ao n cp) g2) w (fun _=>False) wr
def gA(r:List Ln)(id:Int)(ids:List Int)(w:World)(b:Nat)(o:Obj)(ao:Option Addr)(n cp:Nat)(gp:Option Addr)(n1 jo:Nat)(wr:World):Prop:=
 ∃g2:List (Ln×Value),g2.map (·.1)=Ar r id∧n=g2.length∧n1=(ids.filter (· !=id)).length∧Goes (aa (inA (.slice gp n1 jo) (ids.filter (· !=id))) (aa (PB (.slice ao n cp) g2) (blk b o))) w (fun _=>False) wr
theorem rU.below{r:List Ln}{id:Int}{w:World}{ao:Option Addr}{n cp:Nat}{wr:World}(h:rU r id w ao n cp wr):Below w.heap.size w wr:=by obtain⟨_,_,_,h⟩:=h;exact h.toBelow
section
variable{r:List Ln}{id:Int}{ids:List Int}{w:World}{b:Nat}{o:Obj}{ao:Option Addr}{n cp:Nat}{gp:Option Addr}{n1 jo:Nat}{wr w2:World}
theorem gA.below(h:gA r id ids w b o ao n cp gp n1 jo wr):Below w.heap.size w wr:=by obtain⟨_,_,_,_,h⟩:=h;exact h.toBelow
theorem gA.blk(h:gA r id ids w b o ao n cp gp n1 jo wr):wr.heap[b]?=some o:=by obtain⟨g2,h1,h2,h3,h4⟩:=h;obtain⟨_,_,_,⟨_,_,_,hb,_⟩,_⟩:=h4.pieces;exact hb.1
theorem gA.more(h:gA r id ids w b o ao n cp gp n1 jo wr){x:Int}(hx:(x !=id)=true){o':Obj}{G:Ft}(hG:(rowA 3 1 (.slice gp n1 jo) n1 (flat CA (ids.filter (· !=id)))).holds wr G){dz:Option Addr}{mJ:Nat}(bz:Goes (rowA 3 1 (.slice dz (n1+1) mJ) (n1+1) (flat CA (ids.filter (· !=id))++ [.int .i64 x])) (wr.alloc o') G w2):gA r id (ids++ [x]) w b o ao n cp dz (n1+1) mJ w2:=by
 obtain⟨g2,h1,h2,h3,h4⟩:=h;have e:(ids++ [x]).filter (· !=id)=ids.filter (· !=id)++ [x]:=by rw[List.filter_append];simp[hx]
 refine⟨g2,h1,h2,by rw[e,aC,<-h3];rfl, ?_⟩;have h5:=(h4.iD o').part (pB _ _ _ _ _) (aF (w:=wr) (by unfold inA;rw[<-h3];exact hG) ((ar _ _).alloc (af _) _)) bz;refine h5.eq ?_;rw[e];unfold inA;rw[jU,aC,<-h3];rfl
theorem gA.out{l:Ln}(h:gA r id l.ids w b o ao n cp gp 0 jo wr):rU (r++ [l]) id w ao n cp wr:=by obtain⟨g2,h1,h2,h3,h4⟩:=h;refine⟨g2, ?_,h2,((h4.eq (aZ _ _)).drop).drop⟩;rw[tT,if_pos (List.isEmpty_iff.2 (List.eq_nil_of_length_eq_zero h3.symm)),List.append_nil];exact h1
theorem gA.ring(h:gA r id ids w b o ao n cp gp n1 jo wr): ∃g2 G,n=g2.length∧(rowA 176 2 (.slice ao n cp) n (flat tX g2)).holds wr G:=by obtain⟨g2,h1,h2,h3,h4⟩:=h;obtain⟨G,_,hG,_⟩:=(h4.eq (show _=aa (rowA 176 2 (.slice ao n cp) g2.length (flat tX g2)) (aa (inA (.slice gp n1 jo) (ids.filter (· !=id))) (aa (all (fun x=>inA x.2 x.1.ids) g2) (aD.blk b o)))by unfold PB;ac_rfl)).pieces;rw[<-h2]at hG;exact⟨g2,G,h2,hG⟩
theorem vz{e:TypeId}{size:Nat}{v:Value}{n:Nat}{xs ys:List Value}{w:World}{G H:Ft}(h1:(rowA e size v n xs).holds w G)(h2:(rowA e size v n ys).holds w H):xs=ys:=by
 rcases h1.2 with⟨a1,a2,_⟩|⟨x,off,cc,cur,a1,_,a3,_,_,_,a4⟩
 ·have l1:=h1.1;have l2:=h2.1;rw[a2,Nat.zero_mul]at l1 l2;rw[List.eq_nil_of_length_eq_zero l1,List.eq_nil_of_length_eq_zero l2]
 ·rcases h2.2 with⟨b1,b2,_⟩|⟨x',nG,cc',IQ,b1,_,b3,_,_,_,b4⟩
  ·rw[a1]at b1;cases b1
  ·rw[a1]at b1;cases b1;rw[a3]at b3;cases b3;rw[<-a4,<-b4]
theorem gA.put{l:Ln}(h:gA r id l.ids w b o ao n cp gp n1 jo wr)(hn:0<n1){o':Obj}{g2:List (Ln×Value)}{G:Ft}(hG:(rowA 176 2 (.slice ao n cp) n (flat tX g2)).holds wr G){dz:Option Addr}{mJ:Nat}(bz:Goes (rowA 176 2 (.slice dz (n+1) mJ) (n+1) (flat tX g2++ [.string ⟨l.ten.toArray⟩, .slice gp n1 jo])) (wr.alloc o') G w2):rU (r++ [l]) id w dz (n+1) mJ w2:=by
 obtain⟨g3,h1,h2,h3,h4⟩:=h;have cz: ¬(l.ids.filter (· !=id)).isEmpty=true:=fun e=>by rw[List.isEmpty_iff.1 e]at h3;simp at h3;omega
 refine⟨g3++ [(⟨l.ten,l.ids.filter (· !=id)⟩, .slice gp n1 jo)], ?_,by rw[aC,<-h2];rfl, ?_⟩
 ·rw[tT,if_neg cz,aB,h1];rfl
 ·have h5:=(h4.iD o').eq (show _=aa (rowA 176 2 (.slice ao n cp) n (flat tX g3)) (aa (inA (.slice gp n1 jo) (l.ids.filter (· !=id))) (aa (all (fun x=>inA x.2 x.1.ids) g3) (aD.blk b o)))by unfold PB;rw[<-h2];ac_rfl);obtain⟨G3,_,LP,_⟩:=h5.pieces;have Jl:=aF hG ((ar _ _).alloc (af _) o');have e3:flat tX g3=flat tX g2:=vz LP Jl;have h6:=h5.part (pB _ _ _ _ _) (by rw[e3];exact Jl) bz;refine Goes.drop (B:=aD.blk b o) (h6.eq ?_);unfold PB;rw[all_append,rV,jU,aC,<-h2,e3];show aa (rowA 176 2 (.slice dz (n+1) mJ) (n+1) (flat tX g2++ [.string ⟨l.ten.toArray⟩, .slice gp n1 jo])) _=aa (aa (rowA 176 2 (.slice dz (n+1) mJ) (n+1) (flat tX g2++ [.string ⟨l.ten.toArray⟩, .slice gp n1 jo])) _) _
  ac_rfl
