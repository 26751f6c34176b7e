import Derived.Test.YtffamlbkmjmipaaGreatDoorB02
import Derived.Test.YtffamlbkmjmipaaGreatDoorB05
import Derived.Deep.RegionHeld3
import Derived.Deep.RegionWith
import Derived.Deep.RegionLaw
set_option maxHeartbeats 8000000
set_option maxRecDepth 100000
namespace Go.Proofs.YtffamlbkmjmipaaGreatDoor
open _root_.Go.Proofs.Tryz
namespace Mc
open bJ
namespace St
variable{s:St}
def sz(s:St):Nat:=s.out.length+4*s.af.length+8*s.wait.length+s.reqs.length+s.aq.length+s.begun
theorem eZ(c:Int)(t:Bs):(s.say c t).sz=s.sz+1:=by unfold say sz;simp;omega
theorem xl(c:Int):(s.conn c).sz<=s.sz+1:=by
 unfold conn;split
 ·omega
 ·unfold sz;simp;omega
theorem OM(c:Int):(s.fJ c).sz<=s.sz+1:=by
 unfold fJ;split
 ·rw[eZ];unfold sz;dsimp only;rw[dh];omega
 ·omega
theorem mD{i:Nat}{a:At}(h:s.af[i]?=some a):(s.aS i).sz+3<=s.sz:=by unfold aS;rw[h];dsimp only;have h1:=OM (s:={s with af:=s.af.eraseIdx i}) a.conn;have h2:=eH h;unfold sz at h1⊢;dsimp only at h1;omega
theorem jT(i:Nat):(s.aS i).sz<=s.sz:=by
 cases h:s.af[i]? with
 |none=>unfold aS;rw[h];exact ae _
 |some a=>have:=mD h;omega
theorem tS(c:Int):(s.idle c).sz<=s.sz:=by unfold idle sz;dsimp only;have:=List.length_filter_le (· !=c) s.wait;omega
theorem qz(id:Int)(first:Bool):(s.a6 id first).sz=s.sz:=by unfold a6;split<;>rfl
theorem Gi: ∀(f:Nat) (s:St) (id:Int),(stops f s id).sz<=s.sz
 |0,s,id=>ae _
 |f+1,s,id=>by
  unfold stops;split
  ·exact ae _
  ·split
   ·exact ae _
   ·rename_i i _ _ a ha;have h1:=Gi f ((s.say a.conn (aD id a.n)).aS i) id;have h2:=mD (s:=s.say a.conn (aD id a.n)) ha;rw[eZ]at h2;omega
theorem O4{α:Type}(p:α->Bool)(l:List α):(dropFirst p l).length<=l.length:=(gp p l).length_le
theorem rf(id:Int):(s.shut id).sz<=s.sz:=by have h:=Gi s.af.length s id;have h2:=O4 (·.id==id) (stops s.af.length s id).reqs;unfold sz at h⊢;unfold shut left;dsimp only;omega
theorem ra(id:Int)(f:Rq->Rq):(s.bu id f).sz=s.sz:=by unfold bu sz;dsimp only;rw[dh]
theorem tu(id:Int)(counts:Bool):(s.again id counts).sz<=s.sz+1:=by
 unfold again;split
 ·omega
 ·split
  ·omega
  ·split
   ·rename_i r _ _;have:=rf (s:=s.say r.conn ([101,114,114,32]++cJ id)) id;rw[eZ]at this;exact this
   ·rw[qz];split
    ·rw[ra];omega
    ·omega
theorem mU(id:Int):(s.again id false).sz<=s.sz:=by
 unfold again;split
 ·omega
 ·split
  ·omega
  ·simp only[Bool.false_and,Bool.false_eq_true,if_false];rw[qz];exact ae _
theorem xr{c:Int}{ws:List Int}(hw:s.wait=c::ws)(k:Nat):(s.give c ws k).sz<=s.sz:=by
 unfold give;split
 ·omega
 ·split
  ·omega
  ·split
   ·omega
   ·rw[eZ];unfold sz;dsimp only;rw[dh,hw];simp;omega
theorem Bq: ∀(f:Nat) (s:St),(cS f s).sz<=s.sz
 |0,s=>ae _
 |f+1,s=>by
  unfold cS;split
  ·exact ae _
  ·rename_i c ws hw;split
   ·exact ae _
   ·rename_i k _;exact aw (Bq f _) (xr hw k)
theorem uo:s.serve.sz<=s.sz:=Bq _ _
theorem yQ: ∀(f:Nat) (s:St),(cV f s).sz<=s.sz
 |0,s=>ae _
 |f+1,s=>by
  unfold cV;split
  ·exact ae _
  ·split
   ·exact ae _
   ·rename_i i _ _ a ha;have h1:=yQ f (((s.say a.conn (aD a.id a.n)).aS i).again a.id true);have h2:=mD (s:=s.say a.conn (aD a.id a.n)) ha;have h3:=tu (s:=(s.say a.conn (aD a.id a.n)).aS i) a.id true;rw[eZ]at h2;omega
theorem A8(a:At):(s.bA a).sz=s.sz:=by
 unfold bA;split
 ·rfl
 ·split
  ·rw[qz,ra]
  ·rfl
theorem tP: ∀(l:List At) (s:St),(l.foldl bA s).sz=s.sz
 | [],s=>rfl
 |a::l,s=>by rw[List.foldl_cons,tP l,A8]
theorem Vj:s.tick.sz<=s.sz:=by refine aw uo ?_;unfold eE;rw[tP];exact yQ _ _
theorem oW: ∀(f:Nat) (s:St) (i:Nat) (id c:Int),(bH f s i id c).sz<=s.sz
 |0,s,_,_,_=>ae _
 |f+1,s,i,id,c=>by
  unfold bH;split
  ·exact ae _
  ·split
   ·exact aw (oW f _ _ _ _) (jT i)
   ·exact oW f _ _ _ _
theorem oB: ∀(f:Nat) (s:St) (c:Int),(aQ f s c).sz<=s.sz
 |0,s,_=>ae _
 |f+1,s,c=>by
  unfold aQ;split
  ·exact ae _
  ·exact aw (oB f _ _) (aw (rf _) (oW _ _ _ _ _))
theorem oA: ∀(f:Nat) (s:St) (c:Int),(aP f s c).sz<=s.sz
 |0,s,_=>ae _
 |f+1,s,c=>by
  unfold aP;split
  ·exact ae _
  ·split
   ·exact ae _
   ·exact aw (oA f _ _) (aw (mU _) (jT _))
theorem OS(c:Int):(s.close c).sz<=s.sz:=by refine aw uo (aw (oA _ _ _) (aw (oB _ _ _) (aw ?_ (tS c))));have:=List.length_filter_le (fun x:Cn=>x.n !=c) s.aq;unfold sz idle;dsimp only;omega
theorem Nn(c:Int)(m:Mg):(s.bU c m).sz<=s.sz+2:=by
 unfold bU;split
 ·rw[eZ];omega
 ·split
  ·rw[eZ];omega
  ·rw[qz,eZ];unfold sz;simp;omega
theorem sM(c:Int)(m:Mg):(s.message c m).sz<=s.sz+10:=by
 unfold message;split
 ·have:=Nn (s:=s) c m;omega
 split
 ·split
  ·rw[eZ];omega
  ·split
   ·have:=rf (s:=s.say c ([103,111,110,101,32]++cJ m.id)) m.id;rw[eZ]at this;omega
   ·rw[eZ];omega
 split
 ·split
  ·omega
  ·have:=xl (s:=s) c;dsimp only;split
   ·omega
   ·unfold sz at this⊢;simp at*;omega
 split
 ·unfold sz;simp
 split
 ·split
  ·omega
  ·split
   ·omega
   ·rename_i i _ _ r _;have h1:=rf (s:=(s.say r.conn ([118,97,108,32]++cJ m.id++ [32]++m.txt)).aS i) m.id;have h2:=jT (s:=s.say r.conn ([118,97,108,32]++cJ m.id++ [32]++m.txt)) i;rw[eZ]at h2;omega
 split
 ·split
  ·omega
  ·rename_i i _;have h1:=tu (s:=s.aS i) m.id true;have h2:=jT (s:=s) i;omega
 split
 ·have h0:=xl (s:=s) c;dsimp only;have h1:(({s.conn c with aq:=aK (fun x=>x.n==c) (fun x=>{x with drains:=true}) (s.conn c).aq}:St)).sz=(s.conn c).sz:=by
   unfold sz;dsimp only;rw[dh]
  have h2:=tS (s:=({s.conn c with aq:=aK (fun x=>x.n==c) (fun x=>{x with drains:=true}) (s.conn c).aq}:St)) c;have h3:=OM (s:=(({s.conn c with aq:=aK (fun x=>x.n==c) (fun x=>{x with drains:=true}) (s.conn c).aq}:St)).idle c) c;refine aw h3 ?_;omega
 ·omega
theorem dE(h:Inv s):(s.ring.flatMap (·.ids)).length<=s.reqs.length:=by
 have h1:(s.ring.flatMap (·.ids)).length<=(s.ks.map (·.1)).length:=by refine List.Nodup.length_le_of_subset h.once (fun i hi=> ?_);obtain⟨l,hl,dM⟩:=List.mem_flatMap.1 hi;exact lM ((h.ring l hl).2 i dM)
 simpa[ks]using h1
theorem qP(h:Inv s){l:Ln}(hl:l∈s.ring):l.ids.length<=s.reqs.length:=by refine aw ?_ (dE h);obtain⟨a,b,e⟩:=List.append_of_mem hl;rw[e,List.flatMap_append,List.flatMap_cons];simp only[aN];omega
theorem kg(h:Inv s):s.ring.length<=s.reqs.length:=by
 refine aw ?_ (dE h);have: ∀r:List Ln,(∀l∈r,l.ids≠ [])->r.length<=(r.flatMap (·.ids)).length:=by
  intro r
  induction r with
  |nil=>intro _;exact ae _
  |cons x r ih=>intro hr;have h1:=ih (fun l hl=>hr l (bt _ hl));have h2:=List.length_pos_iff.2 (hr x (dy ..));rw[List.flatMap_cons,aN,List.length_cons];omega
 exact this _ (fun l hl=>(h.ring l hl).1)
end St
end Mc
namespace Mr
open Go.RowKit aM Mc
variable{w:World}{F:Ft}{p:Nat}{s:St}{g:List (Ln×Value)}
def gV(r:Rq):List Value:= [.int .i64 r.id, .int .i64 r.conn, .string ⟨r.ten.toArray⟩, .string ⟨r.txt.toArray⟩, .int .i64 r.n, .int .i64 r.left, .bool r.bn]
def fW(a:At):List Value:= [.int .i64 a.id, .int .i64 a.n, .int .i64 a.conn, .int .i64 a.k7, .int .i64 a.eV]
def zX(c:Cn):List Value:= [.int .i64 c.n, .string ⟨c.rest.toArray⟩, .bool c.drains, .bool c.gone]
def Fe(x:Int×Bs):List Value:= [.int .i64 x.1, .string ⟨(aL.line x.2).toArray⟩]
def mY(x:Int):List Value:= [.int .i64 x]
def eN(x:Ln×Value):List Value:= [.string ⟨x.1.ten.toArray⟩,x.2]
theorem lV(r:Rq):(gV r).length=7:=rfl
theorem ly(a:At):(fW a).length=5:=rfl
theorem yg(c:Cn):(zX c).length=4:=rfl
theorem yM(x:Int):(mY x).length=1:=rfl
theorem gU(x:Ln×Value):(eN x).length=2:=rfl
def dO(v:Value)(l:List Rq):aM:=rowA 174 7 v l.length (flat gV l)
def mz(v:Value)(l:List At):aM:=rowA 170 5 v l.length (flat fW l)
def lz(v:Value)(l:List Cn):aM:=rowA 166 4 v l.length (flat zX l)
def iB(v:Value)(l:List (Int×Bs)):aM:=rowA 51 2 v l.length (flat Fe l)
def inA(v:Value)(l:List Int):aM:=rowA 3 1 v l.length (flat mY l)
def rX(v:Value)(l:List (Ln×Value)):aM:=aa (rowA 176 2 v l.length (flat eN l)) (all (fun x=>inA x.2 x.1.ids) l)
structure MV where
 rv:Value
 av:Value
 gv:Value
 wv:Value
 cv:Value
 ov:Value
def y9(s:St)(m:MV):Array Value:= #[.int .i64 s.c.le, .int .i64 s.c.re, .int .i64 s.c.ca, .int .i64 s.c.bo, .int .i64 s.c.he, .int .i64 s.now,m.rv,m.av,m.gv,m.wv,m.cv,m.ov]
def iM(p:Nat)(s:St)(m:MV):aM:=blk p (.cells (y9 s m) 162 (0,0))
def aI(p:Nat)(s:St)(m:MV)(g:List (Ln×Value)):aM:=
 aa (iM p s m) (aa (dO m.rv s.reqs) (aa (mz m.av s.af) (aa (rX m.gv g) (aa (inA m.wv s.wait) (aa (lz m.cv s.aq) (iB m.ov s.out))))))
def aU(p:Nat)(s:St):aM:=ex fun m:MV=>ex fun g:List (Ln×Value)=>aa (fact (g.map (·.1)=s.ring)) (aI p s m g)
structure MF(w:World)(p:Nat)(s:St)(m:MV)(g:List (Ln×Value)):Prop where
 blk:w.heap[p]?=some (.cells (y9 s m) 162 (0,0))
 ring:g.map (·.1)=s.ring
 rq: ∃G,(dO m.rv s.reqs).holds w G
 at': ∃G,(mz m.av s.af).holds w G
 ln: ∃G,(rowA 176 2 m.gv g.length (flat eN g)).holds w G
 Wm: ∀x∈g,∃G,(inA x.2 x.1.ids).holds w G
 wt: ∃G,(inA m.wv s.wait).holds w G
 cn: ∃G,(lz m.cv s.aq).holds w G
 ou: ∃G,(iB m.ov s.out).holds w G
theorem tv{α:Type}{A:α->aM}{l:List α}(h:(all A l).holds w F): ∀x∈l,∃G,(A x).holds w G:=by
 induction l generalizing F with
 |nil=>intro x hx;cases hx
 |cons y l ih=>
  obtain⟨G,H,ha,hb,_⟩:=h;intro x hx;rcases List.mem_cons.1 hx with e|e
  ·exact⟨G,e▸ha⟩
  ·exact ih hb x e
theorem bR{m:MV}(hr:g.map (·.1)=s.ring)(h:(aI p s m g).holds w F):MF w p s m g:=by obtain⟨_,_,h1,⟨_,_,h2,⟨_,_,h3,⟨_,_,⟨_,_,h4,h4',_⟩,⟨_,_,h5,⟨_,_,h6,h7,_⟩,_⟩,_⟩,_⟩,_⟩,_⟩:=h;exact⟨h1.1,hr,⟨_,h2⟩,⟨_,h3⟩,⟨_,h4⟩,tv h4',⟨_,h5⟩,⟨_,h6⟩,⟨_,h7⟩⟩
theorem MF.lt{m:MV}(h:MF w p s m g):p<w.heap.size:=(cT.1 h.blk).1
theorem MF.cell{m:MV}(h:MF w p s m g)(j:Nat):w.cell? ⟨p,j,none⟩=(y9 s m)[j]?:=by simp only[World.cell?,h.blk];rfl
theorem MF.frozen{m:MV}(h:MF w p s m g)(j:Nat):w.frozen? ⟨p,j,none⟩=false:=by simp only[World.frozen?,h.blk];simp
theorem MF.below{w':World}{m:MV}(h:MF w p s m g)(hb:Below w.heap.size w w'):MF w' p s m g:=by have k: ∀{A:aM},(∃G,A.holds w G)-> ∃G,A.holds w' G:=fun⟨G,hG⟩=>⟨G,aM.keep _ hG (fun k hk=>hb.block k (aM.lt _ hG k hk))⟩;exact⟨by rw[hb.block p h.lt];exact h.blk,h.ring,k h.rq,k h.at',k h.ln,fun x hx=>k (h.Wm x hx),k h.wt,k h.cn,k h.ou⟩
variable{w:World}{G:Ft}
def jV:Option Nat->Int
 |none=> -1
 |some k=>k
section
variable{α:Type}{l:List α}{p:α->Bool}{k:Nat}
theorem jF(hk:k<l.length)(hq:p (l[k]'hk)=true)(hi:k<=l.findIdx p):l.findIdx? p=some k:=by rw[List.findIdx?_eq_some_iff_getElem];exact⟨hk,hq,fun j hj=>by simpa using List.not_of_lt_findIdx (bP hj hi)⟩
theorem eI(hk:k<l.length)(hq:p (l[k]'hk)=false)(hi:k<=l.findIdx p):k+1<=l.findIdx p:=by
 rcases Nat.lt_or_eq_of_le hi with h|h
 ·exact h
 ·exfalso;have ay:l.findIdx p<l.length:=by omega
  have h2:=List.findIdx_getElem (w:=ay);simp only[<-h]at h2;rw[hq]at h2;cases h2
theorem lD(hi:l.length<=l.findIdx p):l.findIdx? p=none:=by
 rw[List.findIdx?_eq_none_iff];intro x hx;cases h:p x with
 |false=>rfl
 |true=>have:=List.findIdx_lt_length_of_exists ⟨x,hx,h⟩;omega
theorem tA(hk:k<l.length)(hq:p (l[k]'hk)=true):l.any p=true:=List.any_eq_true.2 ⟨_,aY _,hq⟩
theorem qD(hi:l.length<=l.findIdx p):l.any p=false:=by have h:=List.findIdx?_eq_none_iff.1 (lD hi);rw[List.any_eq_false];intro x hx;simp[h x hx]
theorem qE(hk:k<l.length):(l.take (k+1)).countP p=(l.take k).countP p+if p (l[k]'hk)then 1 else 0:=by rw[fp hk,List.countP_append,List.countP_singleton]
theorem OY:(l.take k).countP p<=l.length:=by refine aw List.countP_le_length ?_;rw[List.length_take];exact Nat.min_le_right ..
end
section
variable{w:World}{G:Ft}{g off cap:Nat}{k:Nat}
theorem fH{l:List Rq}(h:(dO (.slice (some ⟨g,off,none⟩) l.length cap) l).holds w G)(hk:k<l.length):w.cell? ⟨g,off+k*7,none⟩=some (.int .i64 (l[k]'hk).id)∧w.cell? ⟨g,off+k*7+1,none⟩=some (.int .i64 (l[k]'hk).conn)∧w.cell? ⟨g,off+k*7+2,none⟩=some (.string ⟨(l[k]'hk).ten.toArray⟩)∧w.cell? ⟨g,off+k*7+3,none⟩=some (.string ⟨(l[k]'hk).txt.toArray⟩)∧w.cell? ⟨g,off+k*7+4,none⟩=some (.int .i64 (l[k]'hk).n)∧w.cell? ⟨g,off+k*7+5,none⟩=some (.int .i64 (l[k]'hk).left)∧w.cell? ⟨g,off+k*7+6,none⟩=some (.bool (l[k]'hk).bn):=by
 have c: ∀j,j<7->w.cell? ⟨g,off+k*7+j,none⟩=(gV (l[k]'hk))[j]?:=fun j hj=>by rw[Nat.add_assoc,bm h (k*7+j) (by omega),kP lV l k j hk hj]
 exact⟨c 0 (by omega),c 1 (by omega),c 2 (by omega),c 3 (by omega),c 4 (by omega),c 5 (by omega),c 6 (by omega)⟩
theorem dZ{l:List At}(h:(mz (.slice (some ⟨g,off,none⟩) l.length cap) l).holds w G)(hk:k<l.length):w.cell? ⟨g,off+k*5,none⟩=some (.int .i64 (l[k]'hk).id)∧w.cell? ⟨g,off+k*5+1,none⟩=some (.int .i64 (l[k]'hk).n)∧w.cell? ⟨g,off+k*5+2,none⟩=some (.int .i64 (l[k]'hk).conn)∧w.cell? ⟨g,off+k*5+3,none⟩=some (.int .i64 (l[k]'hk).k7)∧w.cell? ⟨g,off+k*5+4,none⟩=some (.int .i64 (l[k]'hk).eV):=by
 have c: ∀j,j<5->w.cell? ⟨g,off+k*5+j,none⟩=(fW (l[k]'hk))[j]?:=fun j hj=>by rw[Nat.add_assoc,bm h (k*5+j) (by omega),kP ly l k j hk hj]
 exact⟨c 0 (by omega),c 1 (by omega),c 2 (by omega),c 3 (by omega),c 4 (by omega)⟩
theorem gL{l:List Cn}(h:(lz (.slice (some ⟨g,off,none⟩) l.length cap) l).holds w G)(hk:k<l.length):w.cell? ⟨g,off+k*4,none⟩=some (.int .i64 (l[k]'hk).n)∧w.cell? ⟨g,off+k*4+1,none⟩=some (.string ⟨(l[k]'hk).rest.toArray⟩)∧w.cell? ⟨g,off+k*4+2,none⟩=some (.bool (l[k]'hk).drains)∧w.cell? ⟨g,off+k*4+3,none⟩=some (.bool (l[k]'hk).gone):=by
 have c: ∀j,j<4->w.cell? ⟨g,off+k*4+j,none⟩=(zX (l[k]'hk))[j]?:=fun j hj=>by rw[Nat.add_assoc,bm h (k*4+j) (by omega),kP yg l k j hk hj]
 exact⟨c 0 (by omega),c 1 (by omega),c 2 (by omega),c 3 (by omega)⟩
theorem j9{l:List (Ln×Value)}(h:(rowA 176 2 (.slice (some ⟨g,off,none⟩) l.length cap) l.length (flat eN l)).holds w G)(hk:k<l.length):w.cell? ⟨g,off+k*2,none⟩=some (.string ⟨(l[k]'hk).1.ten.toArray⟩)∧w.cell? ⟨g,off+k*2+1,none⟩=some (l[k]'hk).2:=by
 have c: ∀j,j<2->w.cell? ⟨g,off+k*2+j,none⟩=(eN (l[k]'hk))[j]?:=fun j hj=>by rw[Nat.add_assoc,bm h (k*2+j) (by omega),kP gU l k j hk hj]
 exact⟨c 0 (by omega),c 1 (by omega)⟩
theorem qQ{l:List Int}(h:(inA (.slice (some ⟨g,off,none⟩) l.length cap) l).holds w G)(hk:k<l.length):w.cell? ⟨g,off+k,none⟩=some (.int .i64 (l[k]'hk)):=by have:=kP yM l k 0 hk (by omega);rw[bm h k (by omega)];simpa[mY]using this
end
theorem bO{e:TypeId}{size n:Nat}{v:Value}{xs:List Value}(h:(rowA e size v n xs).holds w G): ∃ao cap,v= .slice ao n cap∧n<=cap∧(0<n-> ∃g off,ao=some ⟨g,off,none⟩):=by obtain⟨ao,cap,h1,h2,_,h3,_⟩:=bC h;exact⟨ao,cap,h1,h2,fun hn=>by obtain⟨g,off,e,_⟩:=h3 hn;exact⟨g,off,e⟩⟩
theorem au{A:aM}{w':World}(h:A.holds w G)(hb:Below w.heap.size w w'):A.holds w' G:=A.keep h (fun k hk=>hb.block k (A.lt h k hk))
theorem xF{a b:Int}(h:a=b):Ending.returned (.int .i64 a)= .returned (.int .i64 b):=by rw[h]
theorem mK(p:Nat)(id:Int)(s:St)(m:MV)(g:List (Ln×Value))(w:World)(hm:MF w p s m g)(hl:s.reqs.length<=16777216):Calls prog 106 #[.pointer (some ⟨p,0,none⟩), .int .i64 id] w fun e w'=>e= .returned (.int .i64 (jV (s.reqs.findIdx? (·.id==id))))∧Below w.heap.size w w':=by
 have c6:w.cell? ⟨p,6,none⟩=some m.rv:=hm.cell 6;obtain⟨G,hG⟩:=hm.rq;clear hm;obtain⟨ao,cap,hv,dF,bI⟩:=bO hG;rw[hv]at hG c6;generalize s.reqs=l at*;have HG:Hid ((dO (.slice ao l.length cap) l).holds w G):=hG;have fT:Hid (0<l.length-> ∃g off,ao=some ⟨g,off,none⟩):=bI;clear hG bI hv;go_enter func106,ntmps106;go_wp2;go_loopw [12] (fun i wr=> ∃k:Nat,k<=l.length∧i= .int .i64 k∧Hid (k<=l.findIdx (·.id==id))∧Below w.heap.size w wr) (fun i _=>l.length-(intOf i).toNat)
 case atStart=>exact⟨0,aJ _,rfl,aJ _,ah _ _⟩
 case round=>
  obtain⟨k,hk,rfl,HI,hB⟩:=hrel;have cg:=hB.size;by_cases ay:k<l.length
  ·obtain⟨g',off,rfl⟩:=fT.out (by omega);obtain⟨c0,c1,c2,c3,c4,c5,c6⟩:=fH (au HG.out hB) ay;cases hq:((l[k]'ay).id==id)
   ·have ig:Hid (k+1<=l.findIdx (·.id==id)):=eI ay hq HI.out;clear HI;go_wp2;go_roundw
    case rel=>exact⟨k+1,by omega,by go_num,ig,hB.alloc cg _⟩
    case measure=>simp[intOf];omega
   ·have HX:Hid (l.findIdx? (·.id==id)=some k):=jF ay hq HI.out;clear HI;go_wp2;go_ret;exact⟨by rw[HX.out];rfl,hB.alloc cg _⟩
  ·have HX:Hid (l.findIdx? (·.id==id)=none):=lD (by have:=HI.out;omega);obtain rfl:k=l.length:=by omega
   clear HI;go_wp2;go_ret;exact⟨by rw[HX.out];rfl,hB⟩
theorem MF.af{w:World}{p:Nat}{s:St}{m:MV}{g:List (Ln×Value)}(hm:MF w p s m g): ∃ao cap G,w.cell? ⟨p,7,none⟩=some (.slice ao s.af.length cap)∧Hid ((mz (.slice ao s.af.length cap) s.af).holds w G)∧Hid (0<s.af.length-> ∃g off,ao=some ⟨g,off,none⟩):=by have c7:w.cell? ⟨p,7,none⟩=some m.av:=hm.cell 7;obtain⟨G,hG⟩:=hm.at';obtain⟨ao,cap,hv,dF,bI⟩:=bO hG;rw[hv]at hG c7;exact⟨ao,cap,G,c7,hG,bI⟩
theorem J3(p:Nat)(id n:Int)(s:St)(m:MV)(g:List (Ln×Value))(w:World)(hm:MF w p s m g)(hl:s.af.length<=16777216):Calls prog 188 #[.pointer (some ⟨p,0,none⟩), .int .i64 id, .int .i64 n] w fun e w'=>e= .returned (.int .i64 (jV (s.af.findIdx? (fun a=>a.id==id &&a.n==n))))∧Below w.heap.size w w':=by
 obtain⟨ao,cap,G,c7,HG,fT⟩:=hm.af;clear hm;generalize s.af=l at*;go_enter func188,ntmps188;go_wp2;go_loopw [14] (fun i wr=> ∃k:Nat,k<=l.length∧i= .int .i64 k∧Hid (k<=l.findIdx (fun a=>a.id==id &&a.n==n))∧Below w.heap.size w wr) (fun i _=>l.length-(intOf i).toNat)
 case atStart=>exact⟨0,aJ _,rfl,aJ _,ah _ _⟩
 case round=>
  obtain⟨k,hk,rfl,HI,hB⟩:=hrel;have cg:=hB.size;by_cases ay:k<l.length
  ·obtain⟨g',off,rfl⟩:=fT.out (by omega);obtain⟨c0,c1,c2,c3,c4⟩:=dZ (au HG.out hB) ay;cases hq:((l[k]'ay).id==id)
   ·have ig:Hid (k+1<=l.findIdx (fun a=>a.id==id &&a.n==n)):=eI ay (by simp[hq]) HI.out;clear HI;go_wp2;go_roundw
    case rel=>exact⟨k+1,by omega,by go_num,ig,hB.alloc cg _⟩
    case measure=>simp[intOf];omega
   ·cases wT:((l[k]'ay).n==n)
    ·have ig:Hid (k+1<=l.findIdx (fun a=>a.id==id &&a.n==n)):=eI ay (by simp[hq,wT]) HI.out;clear HI;go_wp2;go_roundw
     case rel=>exact⟨k+1,by omega,by go_num,ig,hB.alloc cg _⟩
     case measure=>simp[intOf];omega
    ·have HX:Hid (l.findIdx? (fun a=>a.id==id &&a.n==n)=some k):=jF ay (by simp[hq,wT]) HI.out;clear HI;go_wp2;go_ret;exact⟨by rw[HX.out];rfl,hB.alloc cg _⟩
  ·have HX:Hid (l.findIdx? (fun a=>a.id==id &&a.n==n)=none):=lD (by have:=HI.out;omega);obtain rfl:k=l.length:=by omega
   clear HI;go_wp2;go_ret;exact⟨by rw[HX.out];rfl,hB⟩
def isFirst(id c:Int)(a:At):Bool:=a.id==id||(id== -1 &&a.conn==c)
theorem first_any(p:Nat)(id c:Int)(s:St)(m:MV)(g:List (Ln×Value))(w:World)(hm:MF w p s m g)(hl:s.af.length<=16777216):Calls prog 113 #[.pointer (some ⟨p,0,none⟩), .int .i64 id, .int .i64 c] w fun e w'=>e= .returned (.int .i64 (jV (s.af.findIdx? (isFirst id c))))∧Below w.heap.size w w':=by
 obtain⟨ao,cap,G,c7,HG,fT⟩:=hm.af;clear hm;generalize s.af=l at*;go_enter func113,ntmps113;go_wp2;go_loopw [14] (fun i wr=> ∃k:Nat,k<=l.length∧i= .int .i64 k∧Hid (k<=l.findIdx (isFirst id c))∧Below w.heap.size w wr) (fun i _=>l.length-(intOf i).toNat)
 case atStart=>exact⟨0,aJ _,rfl,aJ _,ah _ _⟩
 case round=>
  obtain⟨k,hk,rfl,HI,hB⟩:=hrel;have cg:=hB.size;by_cases ay:k<l.length
  ·obtain⟨g',off,rfl⟩:=fT.out (by omega);obtain⟨c0,c1,c2,c3,c4⟩:=dZ (au HG.out hB) ay;cases hq:((l[k]'ay).id==id)
   ·cases XR:(id== -1)
    ·have ig:Hid (k+1<=l.findIdx (isFirst id c)):=eI ay (by simp[isFirst,hq,XR]) HI.out;clear HI;go_wp2;go_roundw
     case rel=>exact⟨k+1,by omega,by go_num,ig,hB.alloc cg _⟩
     case measure=>simp[intOf];omega
    ·cases wT:((l[k]'ay).conn==c)
     ·have ig:Hid (k+1<=l.findIdx (isFirst id c)):=eI ay (by simp[isFirst,hq,XR,wT]) HI.out;clear HI;go_wp2;go_roundw
      case rel=>exact⟨k+1,by omega,by go_num,ig,hB.alloc cg _⟩
      case measure=>simp[intOf];omega
     ·have HX:Hid (l.findIdx? (isFirst id c)=some k):=jF ay (by simp[isFirst,XR,wT]) HI.out;clear HI;go_wp2;go_ret;exact⟨by rw[HX.out];rfl,hB.alloc cg _⟩
   ·have HX:Hid (l.findIdx? (isFirst id c)=some k):=jF ay (by simp[isFirst,hq]) HI.out;clear HI;go_wp2;go_ret;exact⟨by rw[HX.out];rfl,hB.alloc cg _⟩
  ·have HX:Hid (l.findIdx? (isFirst id c)=none):=lD (by have:=HI.out;omega);obtain rfl:k=l.length:=by omega
   clear HI;go_wp2;go_ret;exact⟨by rw[HX.out];rfl,hB⟩
theorem count_any(p:Nat)(id:Int)(s:St)(m:MV)(g:List (Ln×Value))(w:World)(hm:MF w p s m g)(hl:s.af.length<=16777216):Calls prog 108 #[.pointer (some ⟨p,0,none⟩), .int .i64 id] w fun e w'=>e= .returned (.int .i64 (s.count id))∧Below w.heap.size w w':=by
 obtain⟨ao,cap,G,c7,HG,fT⟩:=hm.af;clear hm;unfold St.count;generalize s.af=l at*;go_enter func108,ntmps108;go_wp2;go_loopw [5,13] (fun n i wr=> ∃k:Nat,k<=l.length∧i= .int .i64 k∧(∃c:Nat,n= .int .i64 c∧c<=16777216∧Hid (c=(l.take k).countP (·.id==id)))∧Below w.heap.size w wr) (fun _ i _=>l.length-(intOf i).toNat)
 case atStart=>exact⟨0,aJ _,rfl,⟨0,rfl,by omega,by show 0=_;simp⟩,ah _ _⟩
 case round=>
  obtain⟨k,hk,rfl,⟨c,rfl,hc,HC⟩,hB⟩:=hrel;have cg:=hB.size;by_cases ay:k<l.length
  ·obtain⟨g',off,rfl⟩:=fT.out (by omega);obtain⟨c0,c1,c2,c3,c4⟩:=dZ (au HG.out hB) ay;cases hq:((l[k]'ay).id==id)
   ·have ig:Hid (c=(l.take (k+1)).countP (·.id==id)):=by show c=_;rw[qE ay,hq,HC.out];simp
    clear HC;go_wp2;go_roundw
    case rel=>exact⟨k+1,by omega,by go_num,⟨c,rfl,hc,ig⟩,hB.alloc cg _⟩
    case measure=>simp[intOf];omega
   ·have ig:Hid (c+1=(l.take (k+1)).countP (·.id==id)):=by show c+1=_;rw[qE ay,hq,HC.out];simp
    have Kw:c+1<=16777216:=by have h1:=OY (l:=l) (k:=k+1) (p:=(·.id==id));have h2:=ig.out;omega
    clear HC;go_wp2;go_roundw
    case rel=>exact⟨k+1,by omega,by go_num,⟨c+1,by go_num,Kw,ig⟩,hB.alloc cg _⟩
    case measure=>simp[intOf];omega
  ·obtain rfl:k=l.length:=by omega
   go_wp2;go_ret;exact⟨xF (by have h:=HC.out;rw[List.take_length]at h;exact congrArg Int.ofNat h),hB⟩
theorem PE(p:Nat)(id:Int)(s:St)(m:MV)(g:List (Ln×Value))(w:World)(hm:MF w p s m g)(hl:s.af.length<=16777216):Calls prog 189 #[.pointer (some ⟨p,0,none⟩), .int .i64 id] w fun e w'=>e= .returned (.int .i64 (s.held id))∧Below w.heap.size w w':=by
 obtain⟨ao,cap,G,c7,HG,fT⟩:=hm.af;clear hm;unfold St.held;generalize s.af=l at*;go_enter func189,ntmps189;go_wp2;go_loopw [5,13] (fun n i wr=> ∃k:Nat,k<=l.length∧i= .int .i64 k∧(∃c:Nat,n= .int .i64 c∧c<=16777216∧Hid (c=(l.take k).countP (·.conn==id)))∧Below w.heap.size w wr) (fun _ i _=>l.length-(intOf i).toNat)
 case atStart=>exact⟨0,aJ _,rfl,⟨0,rfl,by omega,by show 0=_;simp⟩,ah _ _⟩
 case round=>
  obtain⟨k,hk,rfl,⟨c,rfl,hc,HC⟩,hB⟩:=hrel;have cg:=hB.size;by_cases ay:k<l.length
  ·obtain⟨g',off,rfl⟩:=fT.out (by omega);obtain⟨c0,c1,c2,c3,c4⟩:=dZ (au HG.out hB) ay;cases hq:((l[k]'ay).conn==id)
   ·have ig:Hid (c=(l.take (k+1)).countP (·.conn==id)):=by show c=_;rw[qE ay,hq,HC.out];simp
    clear HC;go_wp2;go_roundw
    case rel=>exact⟨k+1,by omega,by go_num,⟨c,rfl,hc,ig⟩,hB.alloc cg _⟩
    case measure=>simp[intOf];omega
   ·have ig:Hid (c+1=(l.take (k+1)).countP (·.conn==id)):=by show c+1=_;rw[qE ay,hq,HC.out];simp
    have Kw:c+1<=16777216:=by have h1:=OY (l:=l) (k:=k+1) (p:=(·.conn==id));have h2:=ig.out;omega
    clear HC;go_wp2;go_roundw
    case rel=>exact⟨k+1,by omega,by go_num,⟨c+1,by go_num,Kw,ig⟩,hB.alloc cg _⟩
    case measure=>simp[intOf];omega
  ·obtain rfl:k=l.length:=by omega
   go_wp2;go_ret;exact⟨xF (by have h:=HC.out;rw[List.take_length]at h;exact congrArg Int.ofNat h),hB⟩
variable{w:World}{p b j:Nat}{s:St}{m:MV}{g:List (Ln×Value)}{cs:Array Value}{id:Int}
theorem MF.heap{w':World}(h:MF w p s m g)(e:w'.heap=w.heap):MF w' p s m g:=by have k: ∀{A:aM},(∃G,A.holds w G)-> ∃G,A.holds w' G:=fun⟨G,hG⟩=>⟨G,aM.keep _ hG (fun k hk=>by rw[e])⟩;exact⟨by rw[e];exact h.blk,h.ring,k h.rq,k h.at',k h.ln,fun x hx=>k (h.Wm x hx),k h.wt,k h.cn,k h.ou⟩
theorem MF.reqs(hm:MF w p s m g): ∃ao cap G,w.cell? ⟨p,6,none⟩=some (.slice ao s.reqs.length cap)∧Hid ((dO (.slice ao s.reqs.length cap) s.reqs).holds w G)∧Hid (0<s.reqs.length-> ∃g off,ao=some ⟨g,off,none⟩):=by have c7:w.cell? ⟨p,6,none⟩=some m.rv:=hm.cell 6;obtain⟨G,hG⟩:=hm.rq;obtain⟨ao,cap,hv,dF,bI⟩:=bO hG;rw[hv]at hG c7;exact⟨ao,cap,G,c7,hG,bI⟩
theorem ud{B:Nat}{wr:World}(hB:Below B w wr)(hz:B<=wr.heap.size)(cs:Array Value)(t:TypeId): ∃w3,wr.alloc (.cells cs t)=w3∧Below B w w3∧Below wr.heap.size wr w3∧w3.heap[wr.heap.size]?=some (.cells cs t (0,0))∧w3.heap.size=wr.heap.size+1:=
 ⟨_,rfl,hB.alloc hz _,(ah _ _).alloc (ae _) _,heap_alloc_new _ _,by simp⟩
theorem bg{t:TypeId}(h:w.heap[b]?=some (.cells cs t (0,0))):w.cell? ⟨b,j,none⟩=cs[j]?:=by simp only[World.cell?,h];rfl
theorem oz{t:TypeId}(h:w.heap[b]?=some (.cells cs t (0,0))):w.frozen? ⟨b,j,none⟩=false:=by simp only[World.frozen?,h];simp
theorem qh{k:Nat}(h:s.reqs.findIdx? (·.id==id)=some k): ∃hk:k<s.reqs.length,(s.reqs[k]'hk).id=id∧s.req id=some (s.reqs[k]'hk)∧s.ten id=(s.reqs[k]'hk).ten:=by
 obtain⟨hk,hp,hn⟩:=List.findIdx?_eq_some_iff_getElem.1 h;have e:s.req id=some (s.reqs[k]'hk):=by unfold St.req;rw[List.find?_eq_some_iff_getElem];exact⟨hp,k,hk,rfl,fun j hj=>by simpa using hn j hj⟩
 exact⟨hk,by simpa using hp,e,by unfold St.ten;rw[e]⟩
theorem oM(h:id∈s.ks.map (·.1)): ∃k,s.reqs.findIdx? (·.id==id)=some k:=by obtain⟨r,_,hm,e⟩:=St.cz h;rw[<-Option.isSome_iff_exists,List.findIdx?_isSome,List.any_eq_true];exact⟨r,hm,by simpa using e⟩
theorem Rc(p:Nat)(t:Bs)(s:St)(hv:Inv s)(m:MV)(g:List (Ln×Value))(w:World)(hm:MF w p s m g)(hl:s.af.length<=16777216)(oJ:s.reqs.length<=16777216):Calls prog 148 #[.pointer (some ⟨p,0,none⟩), .string ⟨t.toArray⟩] w fun e w'=>e= .returned (.int .i64 (s.runs t))∧Below w.heap.size w w':=by
 obtain⟨ao,cap,G,c7,HG,fT⟩:=hm.af;obtain⟨cU,b9,G2,c6,pn,C1⟩:=hm.reqs;have dc:=hm.lt;have HM:Hid (MF w p s m g):=hm;have HV:Hid (Inv s):=hv;have GH:Hid (s.reqs.length<=16777216):=oJ;clear hm hv oJ;generalize PN:s.af=l at*;have ZT:Hid (s.af=l):=PN;clear PN;go_enter func148,ntmps148;go_wp2;go_loopw [5,13] (fun n i wr=> ∃k:Nat,k<=l.length∧i= .int .i64 k∧(∃c:Nat,n= .int .i64 c∧c<=16777216∧Hid (c=(l.take k).countP (fun a=>s.ten a.id==t)))∧Below w.heap.size w wr) (fun _ i _=>l.length-(intOf i).toNat)
 case atStart=>exact⟨0,aJ _,rfl,⟨0,rfl,by omega,by show 0=_;simp⟩,ah _ _⟩
 case round=>
  obtain⟨k,hk,rfl,⟨c,rfl,hc,HC⟩,hB⟩:=hrel;have cg:=hB.size;by_cases ay:k<l.length
  ·obtain⟨g',off,rfl⟩:=fT.out (by omega);obtain⟨c0,c1,c2,c3,c4⟩:=dZ (au HG.out hB) ay;obtain⟨j,hj⟩:=oM (HV.out.bS (l[k]'ay) (by rw[ZT.out];exact aY _));obtain⟨eP,yF,_,XP⟩:=qh hj;obtain⟨g2,fl,rfl⟩:=C1.out (by omega);have HJ:Hid (s.ten (l[k]'ay).id=(s.reqs[j]'eP).ten):=XP;have HJX:Hid (s.reqs.findIdx? (·.id==(l[k]'ay).id)=some j):=hj;clear XP yF hj;go_wp2_with fail;obtain⟨w3,rU,iH,BN,cP,Sk⟩:=ud hB cg #[.int .i64 (l[k]'ay).id, .int .i64 (l[k]'ay).n, .int .i64 (l[k]'ay).conn, .int .i64 (l[k]'ay).k7, .int .i64 (l[k]'ay).eV] 170;have d0:w3.cell? ⟨wr.heap.size,0,none⟩=some (.int .i64 (l[k]'ay).id):=bg cP;have d6:w3.cell? ⟨p,6,none⟩=some (.slice (some ⟨g2,fl,none⟩) s.reqs.length b9):=by rw[iH.cell (p:=⟨p,6,none⟩) dc];exact c6
   have d2:w3.cell? ⟨g2,fl+j*7+2,none⟩=some (.string ⟨(s.reqs[j]'eP).ten.toArray⟩):=(fH (au pn.out iH) eP).2.2.1;have l3:wr.heap.size<w3.heap.size:=by omega
   have lp:p<w3.heap.size:=by have:=iH.size;omega
   have lg:g2<w3.heap.size:=(dK (au pn.out iH)).1;have rA:Hid (∀w':World,w'.heap=w3.heap->Calls prog 106 #[.pointer (some ⟨p,0,none⟩), .int .i64 (l[k]'ay).id] w' fun e dV=>e= .returned (.int .i64 j)∧Below w'.heap.size w' dV):=fun w' he=>by have h:=mK p (l[k]'ay).id s m g w' ((HM.out.below iH).heap he) GH.out;rw[HJX.out]at h;exact h
   rw[rU];clear rU hB BN cP c0 c1 c2 c3 c4;go_region_held3 (fun w'=>w'.cell? ⟨p,6,none⟩=some (.slice (some ⟨g2,fl,none⟩) s.reqs.length b9)∧w'.cell? ⟨wr.heap.size,0,none⟩=some (.int .i64 (l[k]'ay).id)∧w'.cell? ⟨g2,fl+j*7+2,none⟩=some (.string ⟨(s.reqs[j]'eP).ten.toArray⟩)) (go_keep)
    (first|(go_at_call 106;refine(rA.out w3.drew rfl).mono ?_;rintro e w4⟨rfl,l9⟩;have k0:=(l9.cell (p:=⟨wr.heap.size,0,none⟩) l3).trans d0;have k6:=(l9.cell (p:=⟨p,6,none⟩) lp).trans d6;have k2:=(l9.cell (p:=⟨g2,fl+j*7+2,none⟩) lg).trans d2))
   all_goals
    have pI:Below w.heap.size w w4:=iH.drew.trans (l9.mono iH.size);clear l9 k0 k6 k2 d0 d6 d2 rA;cases hq:((s.reqs[j]'eP).ten==t)
    ·have ig:Hid (c=(l.take (k+1)).countP (fun a=>s.ten a.id==t)):=by show c=_;rw[qE ay,HJ.out,hq,HC.out];simp
     clear HC;go_wp2;go_roundw
     case rel=>exact⟨k+1,by omega,by go_num,⟨c,rfl,hc,ig⟩,pI⟩
     case measure=>simp[intOf];omega
    ·have ig:Hid (c+1=(l.take (k+1)).countP (fun a=>s.ten a.id==t)):=by show c+1=_;rw[qE ay,HJ.out,hq,HC.out];simp
     have Kw:c+1<=16777216:=by have h1:=OY (l:=l) (k:=k+1) (p:=fun a=>s.ten a.id==t);have h2:=ig.out;omega
     clear HC;go_wp2;go_roundw
     case rel=>exact⟨k+1,by omega,by go_num,⟨c+1,by go_num,Kw,ig⟩,pI⟩
     case measure=>simp[intOf];omega
  ·obtain rfl:k=l.length:=by omega
   go_wp2;go_ret;exact⟨xF (by have h:=HC.out;rw[List.take_length]at h;unfold St.runs;rw[ZT.out];exact congrArg Int.ofNat h),hB⟩
variable{n B:Nat}{W w1:World}{x:Int}
theorem tN(f n:Nat):(pV f n).length<=f:=by
 induction f generalizing n with
 |zero=>simp[pV]
 |succ f ih=>unfold pV;split;(·simp);(·have:=ih (n/10);simp;omega)
theorem fh(x:Int):(cJ x).length<=20:=tN _ _
theorem LK(f n:Nat)(h:n<10 ^f)(hf:0<f):pV f n=pV (f+1) n:=by
 induction f generalizing n with
 |zero=>omega
 |succ f ih=>
  conv=>lhs;unfold pV
  conv=>rhs;unfold pV
  by_cases hn:n<10
  ·rw[if_pos hn,if_pos hn]
  ·rw[if_neg hn,if_neg hn];rw[ih (n/10) (by rw[Nat.pow_succ]at h;omega) (by
    rcases Nat.eq_zero_or_pos f with h0|h0
    ·subst h0;simp at h;omega
    ·exact h0)]
theorem LL(h:n<10):cJ (n:Int)= [UInt8.ofNat (48+n)]:=by unfold cJ pV;rw[if_pos (by simpa using h)];rfl
theorem Tw(h: ¬n<10)(hn:n<10 ^19):cJ (n:Int)=cJ ((n/10:Nat):Int)++ [UInt8.ofNat (48+n %10)]:=by
 unfold cJ
 conv=>lhs;unfold pV
 rw[if_neg (by simpa using h)];simp only[Int.toNat_natCast];rw[LK 19 (n/10) (by omega) (by omega)]
theorem YG{a b:Bs}(h:a=b):Ending.returned (.string ⟨a.toArray⟩)= .returned (.string ⟨b.toArray⟩):=by rw[h]
theorem YP(x:Int):strOfNums [x]=⟨#[UInt8.ofNat x.toNat]⟩:=rfl
theorem uS(h:W.cell? ⟨B,0,none⟩=some (.int .u8 x)):(convert 35 9 (.slice (some ⟨B,0,none⟩) 1 1)).run prog W= .ok (.string ⟨#[UInt8.ofNat x.toNat]⟩) W:=by rw[<-YP];exact run_convert_bytes_arg W _ _ underlying35 underlying5 B 0 1 1 [x] rfl (fun i hi=>by have e:i=0:=(by omega);subst e;exact h) _ underlying9
theorem OW(w:World)(B:Nat)(x:Int)(hB:w.heap.size=B):(convert 35 9 (.slice (some ⟨B,0,none⟩) 1 1)).run prog (w.alloc (.cells #[.int .u8 x] 5))= .ok (.string ⟨#[UInt8.ofNat x.toNat]⟩) (w.alloc (.cells #[.int .u8 x] 5)):=by subst hB;refine uS ?_;simp only[World.cell?,heap_alloc_new];rfl
theorem OX(w:World)(x:Int)(h:Below B W w1)(hW:W.heap=(w.alloc (.cells #[.int .u8 x] 5)).heap)(hB:B=w.heap.size+1):(convert 35 9 (.slice (some ⟨w.heap.size,0,none⟩) 1 1)).run prog w1= .ok (.string ⟨#[UInt8.ofNat x.toNat]⟩) w1:=by refine uS ?_;rw[h.cell (p:=⟨w.heap.size,0,none⟩) (show w.heap.size<B by omega)];simp only[World.cell?,hW,heap_alloc_new];rfl
theorem LB(w:World)(B:Nat)(x:Int)(hB:w.heap.size=B):(convert 35 9 (.slice (some ⟨B,0,none⟩) 1 1)).run prog (w.alloc (.cells #[.int .u8 x] 5)).drew= .ok (.string ⟨#[UInt8.ofNat x.toNat]⟩) (w.alloc (.cells #[.int .u8 x] 5)).drew:=by subst hB;refine uS ?_;show(w.alloc (.cells #[.int .u8 x] 5)).cell? _=_;simp only[World.cell?,heap_alloc_new];rfl
theorem Kh{q:Bs}(h:cJ x=q++ [UInt8.ofNat (48+n)]):Ending.returned (.string (⟨q.toArray⟩++⟨#[48+UInt8.ofNat n]⟩))= .returned (.string ⟨(cJ x).toArray⟩):=by rw[h];congr 2;apply ByteArray.ext;simp[UInt8.ofNat_add]
theorem Lq{w:World}{o:Obj}(h:Below B (w.alloc o).drew w1)(hB:w.heap.size<=B):Below w.heap.size w w1:=
 ((ah w.heap.size w).alloc (ae _) o).drew.trans (h.mono hB)
attribute [local go_sem] OW
attribute [local go_sem] LB
theorem DM(n:Nat)(hn:n<1000000000000000000)(w:World):Calls prog 103 #[.int .i64 n] w fun e w'=>e= .returned (.string ⟨(cJ n).toArray⟩)∧Below w.heap.size w w':=by
 induction n using Nat.strongRecOn generalizing w with
 |ind n ih=>
 by_cases h:n<10
 ·have HF:Hid (cJ (n:Int)= [UInt8.ofNat (48+n)]):=LL h;clear ih;go_enter func103,ntmps103;go_wp2;go_ret;exact⟨YG (by rw[HF.out]),(ah _ _).alloc (ae _) _⟩
 ·have HF:Hid (cJ (n:Int)=cJ ((n/10:Nat):Int)++ [UInt8.ofNat (48+n %10)]):=Tw h (by omega);have HC:Hid (∀w:World,Calls prog 103 #[.int .i64 ((n:Int)/10)] w fun e w'=>e= .returned (.string ⟨(cJ (n/10:Nat)).toArray⟩)∧Below w.heap.size w w'):=fun w=>ih (n/10) (by omega) (by omega) w;have hq:(cJ (n/10:Nat)).length<=20:=fh _;generalize cJ (n/10:Nat)=q at*;have hsq:(⟨q.toArray⟩:ByteArray).size<=20:=hq;have kK:IntKind.i64.wrap ((n:Int)/10)=(n:Int)/10:=by rw[IntKind.wrap_i64];omega
  have hw2:IntKind.i64.wrap (48+(n:Int).tmod 10)=48+(n:Int) %10:=by rw[Int.tmod_eq_emod_of_nonneg (by omega),IntKind.wrap_i64];omega
  have rU:IntKind.u8.wrap (48+(n:Int) %10)=48+(n:Int) %10:=by simp[IntKind.wrap,IntKind.bits,IntKind.signed];omega
  have HB:Hid ([UInt8.ofNat (48+n %10)]= [UInt8.ofNat (48+(n:Int) %10).toNat]):=by show _=_;congr 2
  clear ih;go_enter func103,ntmps103;go_wp2_with fail;go_region_with (first|(go_at_call 103;refine(HC.out _).mono ?_;rintro e w1⟨rfl,hb1⟩;first|have Ic:=OX w (48+(n:Int) %10) hb1 rfl (by simp)|skip))
  ·go_wp2;go_ret;exact⟨Kh HF.out,((ah w.heap.size w).drew.trans hb1).alloc hb1.size _⟩
  all_goals go_wp2;go_ret;exact⟨Kh HF.out,Lq hb1 (by simp)⟩
