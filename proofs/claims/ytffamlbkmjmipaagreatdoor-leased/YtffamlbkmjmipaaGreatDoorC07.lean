import Derived.Test.YtffamlbkmjmipaaGreatDoorC02
import Derived.Shelf.Strings.BuilderK
import Derived.BigCall
set_option maxHeartbeats 8000000
set_option maxRecDepth 100000
namespace Go.Proofs.YtffamlbkmjmipaaGreatDoor
open _root_.Go.Proofs.Tryz
namespace Mc
open bJ
namespace St
variable{s:St}
def sz(s:St):Nat:=s.out.length+4*s.af.length+8*s.wait.length+s.reqs.length+s.aq.length+s.begun
theorem eZ(c:Int)(t:Bs):(s.say c t).sz=s.sz+1:=by unfold say sz;simp;omega
theorem xl(c:Int):(s.conn c).sz<=s.sz+1:=by
 unfold conn;split
 ·omega
 ·unfold sz;simp;omega
theorem OM(c:Int):(s.fJ c).sz<=s.sz+1:=by
 unfold fJ;split
 ·rw[eZ];unfold sz;dsimp only;rw[dh];omega
 ·omega
theorem mD{i:Nat}{a:At}(h:s.af[i]?=some a):(s.aS i).sz+3<=s.sz:=by unfold aS;rw[h];dsimp only;have h1:=OM (s:={s with af:=s.af.eraseIdx i}) a.conn;have h2:=eH h;unfold sz at h1⊢;dsimp only at h1;omega
theorem jT(i:Nat):(s.aS i).sz<=s.sz:=by
 cases h:s.af[i]? with
 |none=>unfold aS;rw[h];exact ae _
 |some a=>have:=mD h;omega
theorem tS(c:Int):(s.idle c).sz<=s.sz:=by unfold idle sz;dsimp only;have:=List.length_filter_le (· !=c) s.wait;omega
theorem qz(id:Int)(first:Bool):(s.a6 id first).sz=s.sz:=by unfold a6;split<;>rfl
theorem Gi: ∀(f:Nat) (s:St) (id:Int),(stops f s id).sz<=s.sz
 |0,s,id=>ae _
 |f+1,s,id=>by
  unfold stops;split
  ·exact ae _
  ·split
   ·exact ae _
   ·rename_i i _ _ a ha;have h1:=Gi f ((s.say a.conn (aD id a.n)).aS i) id;have h2:=mD (s:=s.say a.conn (aD id a.n)) ha;rw[eZ]at h2;omega
theorem O4{α:Type}(p:α->Bool)(l:List α):(dropFirst p l).length<=l.length:=(gp p l).length_le
theorem rf(id:Int):(s.shut id).sz<=s.sz:=by have h:=Gi s.af.length s id;have h2:=O4 (·.id==id) (stops s.af.length s id).reqs;unfold sz at h⊢;unfold shut left;dsimp only;omega
theorem ra(id:Int)(f:Rq->Rq):(s.bu id f).sz=s.sz:=by unfold bu sz;dsimp only;rw[dh]
theorem tu(id:Int)(counts:Bool):(s.again id counts).sz<=s.sz+1:=by
 unfold again;split
 ·omega
 ·split
  ·omega
  ·split
   ·rename_i r _ _;have:=rf (s:=s.say r.conn ([101,114,114,32]++cJ id)) id;rw[eZ]at this;exact this
   ·rw[qz];split
    ·rw[ra];omega
    ·omega
theorem mU(id:Int):(s.again id false).sz<=s.sz:=by
 unfold again;split
 ·omega
 ·split
  ·omega
  ·simp only[Bool.false_and,Bool.false_eq_true,if_false];rw[qz];exact ae _
theorem xr{c:Int}{ws:List Int}(hw:s.wait=c::ws)(k:Nat):(s.give c ws k).sz<=s.sz:=by
 unfold give;split
 ·omega
 ·split
  ·omega
  ·split
   ·omega
   ·rw[eZ];unfold sz;dsimp only;rw[dh,hw];simp;omega
theorem Bq: ∀(f:Nat) (s:St),(cS f s).sz<=s.sz
 |0,s=>ae _
 |f+1,s=>by
  unfold cS;split
  ·exact ae _
  ·rename_i c ws hw;split
   ·exact ae _
   ·rename_i k _;exact aw (Bq f _) (xr hw k)
theorem uo:s.serve.sz<=s.sz:=Bq _ _
theorem yQ: ∀(f:Nat) (s:St),(cV f s).sz<=s.sz
 |0,s=>ae _
 |f+1,s=>by
  unfold cV;split
  ·exact ae _
  ·split
   ·exact ae _
   ·rename_i i _ _ a ha;have h1:=yQ f (((s.say a.conn (aD a.id a.n)).aS i).again a.id true);have h2:=mD (s:=s.say a.conn (aD a.id a.n)) ha;have h3:=tu (s:=(s.say a.conn (aD a.id a.n)).aS i) a.id true;rw[eZ]at h2;omega
theorem A8(a:At):(s.bA a).sz=s.sz:=by
 unfold bA;split
 ·rfl
 ·split
  ·rw[qz,ra]
  ·rfl
theorem tP: ∀(l:List At) (s:St),(l.foldl bA s).sz=s.sz
 | [],s=>rfl
 |a::l,s=>by rw[List.foldl_cons,tP l,A8]
theorem Vj:s.tick.sz<=s.sz:=by refine aw uo ?_;unfold eE;rw[tP];exact yQ _ _
theorem oW: ∀(f:Nat) (s:St) (i:Nat) (id c:Int),(bH f s i id c).sz<=s.sz
 |0,s,_,_,_=>ae _
 |f+1,s,i,id,c=>by
  unfold bH;split
  ·exact ae _
  ·split
   ·exact aw (oW f _ _ _ _) (jT i)
   ·exact oW f _ _ _ _
theorem oB: ∀(f:Nat) (s:St) (c:Int),(aQ f s c).sz<=s.sz
 |0,s,_=>ae _
 |f+1,s,c=>by
  unfold aQ;split
  ·exact ae _
  ·exact aw (oB f _ _) (aw (rf _) (oW _ _ _ _ _))
theorem oA: ∀(f:Nat) (s:St) (c:Int),(aP f s c).sz<=s.sz
 |0,s,_=>ae _
 |f+1,s,c=>by
  unfold aP;split
  ·exact ae _
  ·split
   ·exact ae _
   ·exact aw (oA f _ _) (aw (mU _) (jT _))
theorem OS(c:Int):(s.close c).sz<=s.sz:=by refine aw uo (aw (oA _ _ _) (aw (oB _ _ _) (aw ?_ (tS c))));have:=List.length_filter_le (fun x:Cn=>x.n !=c) s.aq;unfold sz idle;dsimp only;omega
theorem Nn(c:Int)(m:Mg):(s.bU c m).sz<=s.sz+2:=by
 unfold bU;split
 ·rw[eZ];omega
 ·split
  ·rw[eZ];omega
  ·rw[qz,eZ];unfold sz;simp;omega
theorem sM(c:Int)(m:Mg):(s.message c m).sz<=s.sz+10:=by
 unfold message;split
 ·have:=Nn (s:=s) c m;omega
 split
 ·split
  ·rw[eZ];omega
  ·split
   ·have:=rf (s:=s.say c ([103,111,110,101,32]++cJ m.id)) m.id;rw[eZ]at this;omega
   ·rw[eZ];omega
 split
 ·split
  ·omega
  ·have:=xl (s:=s) c;dsimp only;split
   ·omega
   ·unfold sz at this⊢;simp at*;omega
 split
 ·unfold sz;simp
 split
 ·split
  ·omega
  ·split
   ·omega
   ·rename_i i _ _ r _;have h1:=rf (s:=(s.say r.conn ([118,97,108,32]++cJ m.id++ [32]++m.txt)).aS i) m.id;have h2:=jT (s:=s.say r.conn ([118,97,108,32]++cJ m.id++ [32]++m.txt)) i;rw[eZ]at h2;omega
 split
 ·split
  ·omega
  ·rename_i i _;have h1:=tu (s:=s.aS i) m.id true;have h2:=jT (s:=s) i;omega
 split
 ·have h0:=xl (s:=s) c;dsimp only;have h1:(({s.conn c with aq:=aK (fun x=>x.n==c) (fun x=>{x with drains:=true}) (s.conn c).aq}:St)).sz=(s.conn c).sz:=by
   unfold sz;dsimp only;rw[dh]
  have h2:=tS (s:=({s.conn c with aq:=aK (fun x=>x.n==c) (fun x=>{x with drains:=true}) (s.conn c).aq}:St)) c;have h3:=OM (s:=(({s.conn c with aq:=aK (fun x=>x.n==c) (fun x=>{x with drains:=true}) (s.conn c).aq}:St)).idle c) c;refine aw h3 ?_;omega
 ·omega
theorem dE(h:Inv s):(s.ring.flatMap (·.ids)).length<=s.reqs.length:=by
 have h1:(s.ring.flatMap (·.ids)).length<=(s.ks.map (·.1)).length:=by refine List.Nodup.length_le_of_subset h.once (fun i hi=> ?_);obtain⟨l,hl,dM⟩:=List.mem_flatMap.1 hi;exact lM ((h.ring l hl).2 i dM)
 simpa[ks]using h1
theorem qP(h:Inv s){l:Ln}(hl:l∈s.ring):l.ids.length<=s.reqs.length:=by refine aw ?_ (dE h);obtain⟨a,b,e⟩:=List.append_of_mem hl;rw[e,List.flatMap_append,List.flatMap_cons];simp only[aN];omega
theorem kg(h:Inv s):s.ring.length<=s.reqs.length:=by
 refine aw ?_ (dE h);have: ∀r:List Ln,(∀l∈r,l.ids≠ [])->r.length<=(r.flatMap (·.ids)).length:=by
  intro r
  induction r with
  |nil=>intro _;exact ae _
  |cons x r ih=>intro hr;have h1:=ih (fun l hl=>hr l (bt _ hl));have h2:=List.length_pos_iff.2 (hr x (dy ..));rw[List.flatMap_cons,aN,List.length_cons];omega
 exact this _ (fun l hl=>(h.ring l hl).1)
end St
end Mc
namespace Mr
open Go.RowKit aM Mc
variable{w:World}{F:Ft}{p:Nat}{s:St}{g:List (Ln×Value)}
def gV(r:Rq):List Value:= [.int .i64 r.id, .int .i64 r.conn, .string ⟨r.ten.toArray⟩, .string ⟨r.txt.toArray⟩, .int .i64 r.n, .int .i64 r.left, .bool r.bn]
def fW(a:At):List Value:= [.int .i64 a.id, .int .i64 a.n, .int .i64 a.conn, .int .i64 a.k7, .int .i64 a.eV]
def zX(c:Cn):List Value:= [.int .i64 c.n, .string ⟨c.rest.toArray⟩, .bool c.drains, .bool c.gone]
def Fe(x:Int×Bs):List Value:= [.int .i64 x.1, .string ⟨(aL.line x.2).toArray⟩]
def mY(x:Int):List Value:= [.int .i64 x]
def eN(x:Ln×Value):List Value:= [.string ⟨x.1.ten.toArray⟩,x.2]
theorem yg(c:Cn):(zX c).length=4:=rfl
theorem yM(x:Int):(mY x).length=1:=rfl
def dO(v:Value)(l:List Rq):aM:=rowA 174 7 v l.length (flat gV l)
def mz(v:Value)(l:List At):aM:=rowA 170 5 v l.length (flat fW l)
def lz(v:Value)(l:List Cn):aM:=rowA 166 4 v l.length (flat zX l)
def iB(v:Value)(l:List (Int×Bs)):aM:=rowA 51 2 v l.length (flat Fe l)
def inA(v:Value)(l:List Int):aM:=rowA 3 1 v l.length (flat mY l)
def rX(v:Value)(l:List (Ln×Value)):aM:=aa (rowA 176 2 v l.length (flat eN l)) (all (fun x=>inA x.2 x.1.ids) l)
structure MV where
 rv:Value
 av:Value
 gv:Value
 wv:Value
 cv:Value
 ov:Value
def y9(s:St)(m:MV):Array Value:= #[.int .i64 s.c.le, .int .i64 s.c.re, .int .i64 s.c.ca, .int .i64 s.c.bo, .int .i64 s.c.he, .int .i64 s.now,m.rv,m.av,m.gv,m.wv,m.cv,m.ov]
def iM(p:Nat)(s:St)(m:MV):aM:=blk p (.cells (y9 s m) 162 (0,0))
def aI(p:Nat)(s:St)(m:MV)(g:List (Ln×Value)):aM:=
 aa (iM p s m) (aa (dO m.rv s.reqs) (aa (mz m.av s.af) (aa (rX m.gv g) (aa (inA m.wv s.wait) (aa (lz m.cv s.aq) (iB m.ov s.out))))))
def aU(p:Nat)(s:St):aM:=ex fun m:MV=>ex fun g:List (Ln×Value)=>aa (fact (g.map (·.1)=s.ring)) (aI p s m g)
structure MF(w:World)(p:Nat)(s:St)(m:MV)(g:List (Ln×Value)):Prop where
 blk:w.heap[p]?=some (.cells (y9 s m) 162 (0,0))
 ring:g.map (·.1)=s.ring
 rq: ∃G,(dO m.rv s.reqs).holds w G
 at': ∃G,(mz m.av s.af).holds w G
 ln: ∃G,(rowA 176 2 m.gv g.length (flat eN g)).holds w G
 Wm: ∀x∈g,∃G,(inA x.2 x.1.ids).holds w G
 wt: ∃G,(inA m.wv s.wait).holds w G
 cn: ∃G,(lz m.cv s.aq).holds w G
 ou: ∃G,(iB m.ov s.out).holds w G
theorem tv{α:Type}{A:α->aM}{l:List α}(h:(all A l).holds w F): ∀x∈l,∃G,(A x).holds w G:=by
 induction l generalizing F with
 |nil=>intro x hx;cases hx
 |cons y l ih=>
  obtain⟨G,H,ha,hb,_⟩:=h;intro x hx;rcases List.mem_cons.1 hx with e|e
  ·exact⟨G,e▸ha⟩
  ·exact ih hb x e
theorem bR{m:MV}(hr:g.map (·.1)=s.ring)(h:(aI p s m g).holds w F):MF w p s m g:=by obtain⟨_,_,h1,⟨_,_,h2,⟨_,_,h3,⟨_,_,⟨_,_,h4,h4',_⟩,⟨_,_,h5,⟨_,_,h6,h7,_⟩,_⟩,_⟩,_⟩,_⟩,_⟩:=h;exact⟨h1.1,hr,⟨_,h2⟩,⟨_,h3⟩,⟨_,h4⟩,tv h4',⟨_,h5⟩,⟨_,h6⟩,⟨_,h7⟩⟩
theorem MF.lt{m:MV}(h:MF w p s m g):p<w.heap.size:=(cT.1 h.blk).1
theorem MF.cell{m:MV}(h:MF w p s m g)(j:Nat):w.cell? ⟨p,j,none⟩=(y9 s m)[j]?:=by simp only[World.cell?,h.blk];rfl
theorem MF.frozen{m:MV}(h:MF w p s m g)(j:Nat):w.frozen? ⟨p,j,none⟩=false:=by simp only[World.frozen?,h.blk];simp
theorem MF.below{w':World}{m:MV}(h:MF w p s m g)(hb:Below w.heap.size w w'):MF w' p s m g:=by have k: ∀{A:aM},(∃G,A.holds w G)-> ∃G,A.holds w' G:=fun⟨G,hG⟩=>⟨G,aM.keep _ hG (fun k hk=>hb.block k (aM.lt _ hG k hk))⟩;exact⟨by rw[hb.block p h.lt];exact h.blk,h.ring,k h.rq,k h.at',k h.ln,fun x hx=>k (h.Wm x hx),k h.wt,k h.cn,k h.ou⟩
variable{w:World}{G:Ft}
def jV:Option Nat->Int
 |none=> -1
 |some k=>k
section
variable{α:Type}{l:List α}{p:α->Bool}{k:Nat}
theorem jF(hk:k<l.length)(hq:p (l[k]'hk)=true)(hi:k<=l.findIdx p):l.findIdx? p=some k:=by rw[List.findIdx?_eq_some_iff_getElem];exact⟨hk,hq,fun j hj=>by simpa using List.not_of_lt_findIdx (bP hj hi)⟩
theorem eI(hk:k<l.length)(hq:p (l[k]'hk)=false)(hi:k<=l.findIdx p):k+1<=l.findIdx p:=by
 rcases Nat.lt_or_eq_of_le hi with h|h
 ·exact h
 ·exfalso;have ay:l.findIdx p<l.length:=by omega
  have h2:=List.findIdx_getElem (w:=ay);simp only[<-h]at h2;rw[hq]at h2;cases h2
theorem lD(hi:l.length<=l.findIdx p):l.findIdx? p=none:=by
 rw[List.findIdx?_eq_none_iff];intro x hx;cases h:p x with
 |false=>rfl
 |true=>have:=List.findIdx_lt_length_of_exists ⟨x,hx,h⟩;omega
theorem tA(hk:k<l.length)(hq:p (l[k]'hk)=true):l.any p=true:=List.any_eq_true.2 ⟨_,aY _,hq⟩
theorem qD(hi:l.length<=l.findIdx p):l.any p=false:=by have h:=List.findIdx?_eq_none_iff.1 (lD hi);rw[List.any_eq_false];intro x hx;simp[h x hx]
end
section
variable{w:World}{G:Ft}{g off cap:Nat}{k:Nat}
theorem gL{l:List Cn}(h:(lz (.slice (some ⟨g,off,none⟩) l.length cap) l).holds w G)(hk:k<l.length):w.cell? ⟨g,off+k*4,none⟩=some (.int .i64 (l[k]'hk).n)∧w.cell? ⟨g,off+k*4+1,none⟩=some (.string ⟨(l[k]'hk).rest.toArray⟩)∧w.cell? ⟨g,off+k*4+2,none⟩=some (.bool (l[k]'hk).drains)∧w.cell? ⟨g,off+k*4+3,none⟩=some (.bool (l[k]'hk).gone):=by
 have c: ∀j,j<4->w.cell? ⟨g,off+k*4+j,none⟩=(zX (l[k]'hk))[j]?:=fun j hj=>by rw[Nat.add_assoc,bm h (k*4+j) (by omega),kP yg l k j hk hj]
 exact⟨c 0 (by omega),c 1 (by omega),c 2 (by omega),c 3 (by omega)⟩
theorem qQ{l:List Int}(h:(inA (.slice (some ⟨g,off,none⟩) l.length cap) l).holds w G)(hk:k<l.length):w.cell? ⟨g,off+k,none⟩=some (.int .i64 (l[k]'hk)):=by have:=kP yM l k 0 hk (by omega);rw[bm h k (by omega)];simpa[mY]using this
end
theorem bO{e:TypeId}{size n:Nat}{v:Value}{xs:List Value}(h:(rowA e size v n xs).holds w G): ∃ao cap,v= .slice ao n cap∧n<=cap∧(0<n-> ∃g off,ao=some ⟨g,off,none⟩):=by obtain⟨ao,cap,h1,h2,_,h3,_⟩:=bC h;exact⟨ao,cap,h1,h2,fun hn=>by obtain⟨g,off,e,_⟩:=h3 hn;exact⟨g,off,e⟩⟩
theorem au{A:aM}{w':World}(h:A.holds w G)(hb:Below w.heap.size w w'):A.holds w' G:=A.keep h (fun k hk=>hb.block k (A.lt h k hk))
end Mr
namespace aL
open Go.RowKit
theorem ag(w:World)(n:Nat)(a:Addr)(v:Value):(w.drewN n).setCell a v=(w.setCell a v).drewN n:=rfl
theorem ar(w:World)(n:Nat)(o:Obj):(w.drewN n).alloc o=(w.alloc o).drewN n:=rfl
attribute [local go_sem] ag
attribute [local go_sem] ar
theorem Below.ym{B:Nat}{a w:World}(h:Below B a w)(n:Nat):Below B a (w.drewN n):=⟨h.os,h.tape,h.output,h.size,h.block⟩
theorem lX(s:ByteArray)(w:World)(hs:s.size<=1048576):Calls prog 58 #[.string s] w fun e w'=>e= .returned (.string ⟨(line s.data.toList).toArray⟩)∧Below w.heap.size w w':=by
 go_enter func58,ntmps58;go_wp2;go_loopw [4] (fun i wr=> ∃k n:Nat,k<=s.size∧i= .int .i64 k∧wr=(w.alloc (.cells #[.int .i64 (sm s.data.toList k 0), .int .i64 (sm s.data.toList k 1), .int .i64 (sm s.data.toList k 2), .int .i64 (sm s.data.toList k 3)] 3)).drewN n) (fun i _=>s.size-(intOf i).toNat)
 case atStart=>exact⟨0,0,aJ _,rfl,rfl⟩
 case round=>
  obtain⟨k,n,hk,rfl,rfl⟩:=hrel;have b0:=gW s.data.toList k 0;have b1:=gW s.data.toList k 1;have b2:=gW s.data.toList k 2;have b3:=gW s.data.toList k 3;by_cases ay:k<s.size
  ·have rE:(s[k].toNat:Int)<=255:=by have:=s[k].toNat_lt;omega
   have hge:(s.data.toList[k]?.getD 0).toNat=s[k].toNat:=by rw[a7 (by simpa using ay)];rfl
   have hm:k %4=0∨k %4=1∨k %4=2∨k %4=3:=by omega
   have HG:Hid ((s.data.toList[k]?.getD 0).toNat=s[k].toNat):=hge;clear hge;rcases hm with hm|hm|hm|hm
   ·have XT:(k:Int) %4=0:=by omega
    have HK:Hid (k %4=0):=hm;clear hm;go_wp2
    go_region
    go_wp2;go_roundw
    case rel=>refine⟨k+1,n+1,by omega,by go_num, ?_⟩;have e:=HK.out;rw[mP _ _ 0 e,cE _ _ 1 (by omega),cE _ _ 2 (by omega),cE _ _ 3 (by omega),HG.out]
    case measure=>simp[intOf];omega
   ·have XT:(k:Int) %4=1:=by omega
    have HK:Hid (k %4=1):=hm;clear hm;go_wp2
    go_region
    go_wp2;go_roundw
    case rel=>refine⟨k+1,n+1,by omega,by go_num, ?_⟩;have e:=HK.out;rw[mP _ _ 1 e,cE _ _ 0 (by omega),cE _ _ 2 (by omega),cE _ _ 3 (by omega),HG.out]
    case measure=>simp[intOf];omega
   ·have XT:(k:Int) %4=2:=by omega
    have HK:Hid (k %4=2):=hm;clear hm;go_wp2
    go_region
    go_wp2;go_roundw
    case rel=>refine⟨k+1,n+1,by omega,by go_num, ?_⟩;have e:=HK.out;rw[mP _ _ 2 e,cE _ _ 0 (by omega),cE _ _ 1 (by omega),cE _ _ 3 (by omega),HG.out]
    case measure=>simp[intOf];omega
   ·have XT:(k:Int) %4=3:=by omega
    have HK:Hid (k %4=3):=hm;clear hm;go_wp2
    go_region
    go_wp2;go_roundw
    case rel=>refine⟨k+1,n+1,by omega,by go_num, ?_⟩;have e:=HK.out;rw[mP _ _ 3 e,cE _ _ 0 (by omega),cE _ _ 1 (by omega),cE _ _ 2 (by omega),HG.out]
    case measure=>simp[intOf];omega
  ·have HK:Hid (k=s.data.toList.length):=by
    have e:s.data.toList.length=s.size:=by simp
    show k=_;omega
   go_wp2;go_loopw [35,5] (fun i o wr=> ∃j n:Nat,j<=4∧i= .int .i64 j∧o= .string ⟨(acc s.data.toList k j).toArray⟩∧wr=(w.alloc (.cells #[.int .i64 (sm s.data.toList k 0), .int .i64 (sm s.data.toList k 1), .int .i64 (sm s.data.toList k 2), .int .i64 (sm s.data.toList k 3)] 3)).drewN n) (fun i _ _=>4-(intOf i).toNat)
   case atStart=>exact⟨0,n,by omega,rfl,nV (Dd s k),rfl⟩
   case round=>
    obtain⟨j,n,hj,rfl,rfl,rfl⟩:=hrel;have Xs:=WZ s.data.toList k j 1048576 (by simpa using hs) hj;by_cases adN:j<4
    ·have hm:j=0∨j=1∨j=2∨j=3:=by omega
     rcases hm with rfl|rfl|rfl|rfl
     ·go_wp2
      go_quiet (fail)
      go_wp2;go_roundw
      case rel=>exact⟨_,_,by omega,by go_num,nV (tr _ _ _),rfl⟩
      case measure=>simp[intOf]
     ·go_wp2
      go_quiet (fail)
      go_wp2;go_roundw
      case rel=>exact⟨_,_,by omega,by go_num,nV (tr _ _ _),rfl⟩
      case measure=>simp[intOf]
     ·go_wp2
      go_quiet (fail)
      go_wp2;go_roundw
      case rel=>exact⟨_,_,by omega,by go_num,nV (tr _ _ _),rfl⟩
      case measure=>simp[intOf]
     ·go_wp2
      go_quiet (fail)
      go_wp2;go_roundw
      case rel=>exact⟨_,_,by omega,by go_num,nV (tr _ _ _),rfl⟩
      case measure=>simp[intOf]
    ·obtain rfl:j=4:=by omega
     go_wp2;go_ret;refine⟨?_, ?_⟩
     ·exact SR _ _ HK.out
     ·exact Below.ym ((ah _ _).alloc (ae _) _) n
end aL
end Go.Proofs.YtffamlbkmjmipaaGreatDoor
namespace Go.Proofs
open Go.Shelf
def Tryz.lays169_ren:Go.Shelf.Ren:=⟨fun|169=>130|n=>n,fun|70=>189|9=>9|0=>0|72=>191|37=>35|127=>230|3=>3|5=>5|n=>n,fun|n=>n⟩
theorem Tryz.lays169:Go.Proofs.Lays.n169 Tryz.prog Tryz.lays169_ren:={mixed:=by kernel_rfl,f169:=Tryz.func130.trans (congrArg some (by kernel_rfl)),t0:=Tryz.underlying0,a0:=Tryz.isAgg0,z0:=Tryz.sizeOf0,v0:=Tryz.zeroValue0,t3:=Tryz.underlying3,a3:=Tryz.isAgg3,z3:=Tryz.sizeOf3,v3:=Tryz.zeroValue3,t9:=Tryz.underlying9,a9:=Tryz.isAgg9,z9:=Tryz.sizeOf9,v9:=Tryz.zeroValue9,t37:=Tryz.underlying35,a37:=Tryz.isAgg35,z37:=Tryz.sizeOf35,v37:=Tryz.zeroValue35,t70:=Tryz.underlying189,a70:=Tryz.isAgg189,z70:=Tryz.sizeOf189,v70:=Tryz.zeroValue189,t72:=Tryz.underlying191,a72:=Tryz.isAgg191,z72:=Tryz.sizeOf191,v72:=Tryz.zeroValue191,t127:=Tryz.underlying230,a127:=Tryz.isAgg230,z127:=Tryz.sizeOf230,v127:=Tryz.zeroValue230}
theorem Tryz.Builder_Extra_169:Builder.Extra Tryz.prog Tryz.lays169_ren:={sizeBuilder:=by kernel_rfl,liesBuilder:=by kernel_rfl,t5:=Tryz.underlying5,a5:=Tryz.isAgg5,z5:=Tryz.sizeOf5,v5:=Tryz.zeroValue5,infoByte:=by kernel_rfl,cellsByte:=by kernel_rfl,sizeByte:=by kernel_rfl,neB5:=by decide}
open Go.RowKit in
theorem Tryz.Builder_String_any_k(B b:Nat)(l:List UInt8)(w:World)(h:Lib.IsBuilderF 191 5 B b (Lib.byteCells l) w)(hBw:B<=w.heap.size):
  Calls Tryz.prog 130 #[.pointer (some ⟨b,0,none⟩)] w fun e w'=>e= .returned (.string ⟨l.toArray⟩)∧(Lib.IsBuilderF 191 5 B b (Lib.byteCells l) w'∧Below B w w'∧Lib.OthersKept 5 (some b) w w'):=Any.Builder_String_any_k Tryz.lays169 Tryz.Builder_Extra_169 B b l w h hBw
end Go.Proofs
namespace Go.Proofs.YtffamlbkmjmipaaGreatDoor
open _root_.Go.Proofs.Tryz
namespace Sp
open Go.RowKit
set_option linter.unusedVariables false
theorem sizeBuilder:(prog.info? 191).map (·.size)=some 2:=by kernel_rfl
theorem liesBuilder:liesAt prog prog.depth 191 (2/prog.cellsOf 191) 0 191 1=true:=by kernel_rfl
theorem infoByte:(prog.info? 5).map (fun i=>(i.zero,i.size,i.bytes))=some (some (.int .u8 0),1,1):=by kernel_rfl
theorem yh(b:Nat)(w:World)(h0:w.cell? ⟨b,0,none⟩=some (.pointer (some ⟨b,0,none⟩))):Calls prog 168 #[.pointer (some ⟨b,0,none⟩)] w fun e w'=>e= .returned (.tuple #[])∧w'=w:=by obtain⟨j,hj,_⟩:=Option.map_eq_some_iff.1 sizeBuilder;go_enter func168,ntmps168;go_wp2;rw[Lib.run_neq_ptr_same w _ underlying189 hj];go_wp2;go_end0;exact⟨rfl,rfl⟩
theorem wM(b:Nat)(w:World)(h0:w.cell? ⟨b,0,none⟩=some (.pointer none))(oh:w.shape? b=some (191,2))(Zj:w.frozen? ⟨b,0,none⟩=false):Calls prog 168 #[.pointer (some ⟨b,0,none⟩)] w fun e w'=>e= .returned (.tuple #[])∧w'=w.setCell ⟨b,0,none⟩ (.pointer (some ⟨b,0,none⟩)):=by obtain⟨j,hj,hjs⟩:=Option.map_eq_some_iff.1 sizeBuilder;go_enter func168,ntmps168;go_wp2;rw[Lib.run_to_unsafe w ⟨b,0,none⟩ underlying189 underlying263 hj (by rw[hjs];decide) oh (Nat.zero_lt_succ 1)];simp only[Result.andThen];rw[Oper.upon_value];go_wp2;rw[run_callFunc_extern func210 (by kernel_rfl) (by kernel_rfl) (by kernel_rfl) (e:=Extern.AbiNoEscape.same) (by kernel_rfl)];rw[Lib.run_noEscape];simp only[Result.andThen];rw[Oper.upon_value];go_wp2;rw[Lib.run_from_unsafe w ⟨b,0,none⟩ underlying263 underlying189 hj oh liesBuilder];simp only[Result.andThen];rw[Oper.upon_value];go_wp2;go_end0;exact⟨rfl,rfl⟩
theorem Du(B b:Nat)(bs:List Value)(w:World)(h:Lib.IsBuilderF 191 5 B b bs w):Calls prog 168 #[.pointer (some ⟨b,0,none⟩)] w fun e w'=>e= .returned (.tuple #[])∧(Lib.BuilderAtF 191 5 B b (.pointer (some ⟨b,0,none⟩)) bs w'∧Below B w w'∧Lib.OthersKept 5 (some b) w w'):=by
 rcases h with h|h
 ·refine(wM b w h.cell0 h.shape h.frozen0).mono ?_;rintro e w'⟨rfl,rfl⟩;exact⟨rfl,h.used _,(ah B w).setCell (p:=⟨b,0,none⟩) h.1 _,(Lib.OthersKept.refl _ _ w).setCell ⟨b,0,none⟩ rfl _⟩
 ·refine(yh b w h.cell0).mono ?_;rintro e w'⟨rfl,rfl⟩;exact⟨rfl,h,ah B _,Lib.OthersKept.refl _ _ _⟩
theorem fN(B b:Nat)(bs:List Value)(c:Int)(w:World)(h:Lib.IsBuilderF 191 5 B b bs w)(hlen:bs.length+1<=140737488355328)(hBw:B<=w.heap.size):Calls prog 129 #[.pointer (some ⟨b,0,none⟩), .int .u8 c] w fun e w'=>e= .returned .nilIface∧(Lib.BuilderAtF 191 5 B b (.pointer (some ⟨b,0,none⟩)) (bs++ [.int .u8 c]) w'∧Below B w w'∧Lib.OthersKept 5 (some b) w w'):=by
 obtain⟨i0,hi,gI,dN,fS⟩:=info_parts infoByte;go_enter func129,ntmps129;go_wp2_with (go_at_call 168;refine(Du B b bs _ h).mono ?_);rintro e w1⟨rfl,h1,hb1,BO⟩;obtain⟨hB,v,NT,a8,cC⟩:=h1;have c0:w1.cell? ⟨b,0,none⟩=some (.pointer (some ⟨b,0,none⟩)):=by rw[Lib.cell_of_heap NT];rfl
 have c1:w1.cell? ⟨b,1,none⟩=some v:=by rw[Lib.cell_of_heap NT];rfl
 go_wp2_with (at_builtin;refine wpList_append_ownF _ rfl _ _ 35 rfl B 5 i0 (.int .u8 0) 1 1 underlying35 hi gI dN fS rfl (by decide) _ _ _ rfl (a8.alloc _) ⟨w1.heap.size,0,none⟩ 1 1 [.int .u8 c] rfl rfl ?c1 ?c2 ?c3 ?c4 ?c5 ?_)
 case c1=>
  intro j u hj
  match j,hj with
  |0,hj=>simp at hj;subst hj;simp[Addr.add]
 case c2=>intro u hu;simp at hu;subst hu;rfl
 case c3=>unfold maxLen;omega
 case c4=>omega
 case c5=>have:=hb1.size;simp;omega
 intro v' w2 V5 gR _;have ay:b<w1.heap.size:=by
  rcases Nat.lt_or_ge b w1.heap.size with h'|h'
  ·exact h'
  ·simp[Array.getElem?_eq_none h']at NT
 have bN:w2.heap[b]?=some (.cells #[.pointer (some ⟨b,0,none⟩),v] 191 (0,0)):=by rw[gR.block b (by simp;omega) (fun e=>cC e.symm),Lib.alloc_old w1 _ b ay];exact NT
 have d0:w2.cell? ⟨b,0,none⟩=some (.pointer (some ⟨b,0,none⟩)):=by rw[Lib.cell_of_heap bN];rfl
 have d1:w2.cell? ⟨b,1,none⟩=some v:=by rw[Lib.cell_of_heap bN];rfl
 have f1:w2.frozen? ⟨b,1,none⟩=false:=Lib.frozen_of_heap bN 1;obtain⟨g,cap,rfl⟩: ∃g cap,v'= .slice (some ⟨g,0,none⟩) (bs.length+1) cap:=by
  rcases V5.2 with⟨_,h0⟩|⟨g,cap,cur,fz,hv,_⟩
  ·omega
  ·exact⟨g,cap,hv⟩
 go_wp2;go_ret;refine⟨rfl, ?_, ?_,((BO.alloc _).grown gR (Lib.ownsRowF_kind (a8.alloc _))).setCell ⟨b,1,none⟩ rfl _⟩
 ·exact Lib.BuilderAtF.put (T:=191) (e:=5) hB bN (bs':=bs++ [.int .u8 c]) (by simpa using V5) (by decide)
 ·exact((hb1.alloc (by have:=hb1.size;omega) _).grown gR (by have:=hb1.size;simp;omega) (fun k hk=>(a8.lt k hk).1)).setCell (p:=⟨b,1,none⟩) hB _
end Sp
namespace bJ
open Go.RowKit
def fx(by':UInt8)(p:List (List UInt8)×List UInt8)(c:UInt8):List (List UInt8)×List UInt8:=if c=by' then(p.1++ [p.2], [])else(p.1,p.2++ [c])
def mV(by':UInt8)(l:List UInt8):List (List UInt8)×List UInt8:=l.foldl (fx by') ([], [])
def bW(by':UInt8)(l:List UInt8):List (List UInt8):=(mV by' l).1++ [(mV by' l).2]
theorem qF(by':UInt8)(l:List UInt8)(c:UInt8):mV by' (l++ [c])=fx by' (mV by' l) c:=by simp[mV,List.foldl_append]
theorem tK(by':UInt8)(l:List UInt8):(mV by' l).1.length<=l.length∧(mV by' l).2.length<=l.length∧ ∀x∈(mV by' l).1,x.length<=l.length:=by
 rw[<-List.reverse_reverse l];generalize l.reverse=r
 induction r with
 |nil=>simp[mV]
 |cons c r ih=>
  rw[List.reverse_cons,qF];unfold fx;obtain⟨h1,h2,h3⟩:=ih;split
  ·refine⟨by simp at*;omega,by simp,fun x hx=> ?_⟩;rw[List.mem_append]at hx;rcases hx with hx|hx
   ·have:=h3 x hx;simp at*;omega
   ·simp at hx;subst hx;simp at*;omega
  ·refine⟨by simp at*;omega,by simp at*;omega,fun x hx=> ?_⟩;have:=h3 x hx;simp at*;omega
def strs(l:List (List UInt8)):List Value:=l.map fun x=> .string ⟨x.toArray⟩
