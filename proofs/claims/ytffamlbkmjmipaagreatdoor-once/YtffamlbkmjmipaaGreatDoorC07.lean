import Derived.Test.YtffamlbkmjmipaaGreatDoorC02
import Derived.Shelf.Strings.BuilderK
import Derived.BigCall
set_option maxHeartbeats 8000000
set_option maxRecDepth 100000
namespace Go.Proofs.YtffamlbkmjmipaaGreatDoor
open _root_.Go.Proofs.Tryz
namespace Mc
open bG
namespace St
variable{s:St}
def sz(s:St):Nat:=s.out.length+4*s.ah.length+8*s.wait.length+s.reqs.length+s.aq.length+s.begun
theorem fB(c:Int)(t:Bs):(s.say c t).sz=s.sz+1:=by unfold say sz;simp;omega
theorem vk(c:Int):(s.conn c).sz<=s.sz+1:=by
 unfold conn;split
 ·omega
 ·unfold sz;simp;omega
theorem MO(c:Int):(s.fp c).sz<=s.sz+1:=by
 unfold fp;split
 ·rw[fB];unfold sz;dsimp only;rw[cV];omega
 ·omega
theorem lO{i:Nat}{a:At}(h:s.ah[i]?=some a):(s.aZ i).sz+3<=s.sz:=by unfold aZ;rw[h];dsimp only;have h1:=MO (s:={s with ah:=s.ah.eraseIdx i}) a.conn;have h2:=iV h;unfold sz at h1⊢;dsimp only at h1;omega
theorem ru(i:Nat):(s.aZ i).sz<=s.sz:=by
 cases h:s.ah[i]? with
 |none=>unfold aZ;rw[h];exact af _
 |some a=>have:=lO h;omega
theorem vz(c:Int):(s.idle c).sz<=s.sz:=by unfold idle sz;dsimp only;have:=List.length_filter_le (· !=c) s.wait;omega
theorem nk(id:Int)(first:Bool):(s.aX id first).sz=s.sz:=by unfold aX;split<;>rfl
theorem Ej: ∀(f:Nat) (s:St) (id:Int),(stops f s id).sz<=s.sz
 |0,s,id=>af _
 |f+1,s,id=>by
  unfold stops;split
  ·exact af _
  ·split
   ·exact af _
   ·rename_i i _ _ a ha;have h1:=Ej f ((s.say a.conn (aU id a.n)).aZ i) id;have h2:=lO (s:=s.say a.conn (aU id a.n)) ha;rw[fB]at h2;omega
theorem Na{α:Type}(p:α->Bool)(l:List α):(dropFirst p l).length<=l.length:=(dt p l).length_le
theorem sq(id:Int):(s.shut id).sz<=s.sz:=by have h:=Ej s.ah.length s id;have h2:=Na (·.id==id) (stops s.ah.length s id).reqs;unfold sz at h⊢;unfold shut left;dsimp only;omega
theorem nW(id:Int)(f:Rq->Rq):(s.bj id f).sz=s.sz:=by unfold bj sz;dsimp only;rw[cV]
theorem vN(id:Int)(counts:Bool):(s.again id counts).sz<=s.sz+1:=by
 unfold again;split
 ·omega
 ·split
  ·omega
  ·split
   ·rename_i r _ _;have:=sq (s:=s.say r.conn ([101,114,114,32]++bZ id)) id;rw[fB]at this;exact this
   ·rw[nk];split
    ·rw[nW];omega
    ·omega
theorem pA(id:Int):(s.again id false).sz<=s.sz:=by
 unfold again;split
 ·omega
 ·split
  ·omega
  ·simp only[Bool.false_and,Bool.false_eq_true,if_false];rw[nk];exact af _
theorem A8{c:Int}{ws:List Int}(hw:s.wait=c::ws)(k:Nat):(s.give c ws k).sz<=s.sz:=by
 unfold give;split
 ·omega
 ·split
  ·omega
  ·split
   ·omega
   ·rw[fB];unfold sz;dsimp only;rw[cV,hw];simp;omega
theorem Ap: ∀(f:Nat) (s:St),(bR f s).sz<=s.sz
 |0,s=>af _
 |f+1,s=>by
  unfold bR;split
  ·exact af _
  ·rename_i c ws hw;split
   ·exact af _
   ·rename_i k _;exact ar (Ap f _) (A8 hw k)
theorem sf:s.serve.sz<=s.sz:=Ap _ _
theorem yi: ∀(f:Nat) (s:St),(bV f s).sz<=s.sz
 |0,s=>af _
 |f+1,s=>by
  unfold bV;split
  ·exact af _
  ·split
   ·exact af _
   ·rename_i i _ _ a ha;have h1:=yi f (((s.say a.conn (aU a.id a.n)).aZ i).again a.id true);have h2:=lO (s:=s.say a.conn (aU a.id a.n)) ha;have h3:=vN (s:=(s.say a.conn (aU a.id a.n)).aZ i) a.id true;rw[fB]at h2;omega
theorem z8(a:At):(s.bk a).sz=s.sz:=by
 unfold bk;split
 ·rfl
 ·split
  ·rw[nk,nW]
  ·rfl
theorem A7: ∀(l:List At) (s:St),(l.foldl bk s).sz=s.sz
 | [],s=>rfl
 |a::l,s=>by rw[List.foldl_cons,A7 l,z8]
theorem TV:s.tick.sz<=s.sz:=by refine ar sf ?_;unfold dE;rw[A7];exact yi _ _
theorem qi: ∀(f:Nat) (s:St) (i:Nat) (id c:Int),(bp f s i id c).sz<=s.sz
 |0,s,_,_,_=>af _
 |f+1,s,i,id,c=>by
  unfold bp;split
  ·exact af _
  ·split
   ·exact ar (qi f _ _ _ _) (ru i)
   ·exact qi f _ _ _ _
theorem lK: ∀(f:Nat) (s:St) (c:Int),(aM f s c).sz<=s.sz
 |0,s,_=>af _
 |f+1,s,c=>by
  unfold aM;split
  ·exact af _
  ·exact ar (lK f _ _) (ar (sq _) (qi _ _ _ _ _))
theorem lJ: ∀(f:Nat) (s:St) (c:Int),(aP f s c).sz<=s.sz
 |0,s,_=>af _
 |f+1,s,c=>by
  unfold aP;split
  ·exact af _
  ·split
   ·exact af _
   ·exact ar (lJ f _ _) (ar (pA _) (ru _))
theorem MU(c:Int):(s.close c).sz<=s.sz:=by refine ar sf (ar (lJ _ _ _) (ar (lK _ _ _) (ar ?_ (vz c))));have:=List.length_filter_le (fun x:Cn=>x.n !=c) s.aq;unfold sz idle;dsimp only;omega
theorem Lp(c:Int)(m:Mg):(s.cf c m).sz<=s.sz+2:=by
 unfold cf;split
 ·rw[fB];omega
 ·split
  ·rw[fB];omega
  ·rw[nk,fB];unfold sz;simp;omega
theorem yu(c:Int)(m:Mg):(s.message c m).sz<=s.sz+10:=by
 unfold message;split
 ·have:=Lp (s:=s) c m;omega
 split
 ·split
  ·rw[fB];omega
  ·split
   ·have:=sq (s:=s.say c ([103,111,110,101,32]++bZ m.id)) m.id;rw[fB]at this;omega
   ·rw[fB];omega
 split
 ·split
  ·omega
  ·have:=vk (s:=s) c;dsimp only;split
   ·omega
   ·unfold sz at this⊢;simp at*;omega
 split
 ·unfold sz;simp
 split
 ·split
  ·omega
  ·split
   ·omega
   ·rename_i i _ _ r _;have h1:=sq (s:=(s.say r.conn ([118,97,108,32]++bZ m.id++ [32]++m.txt)).aZ i) m.id;have h2:=ru (s:=s.say r.conn ([118,97,108,32]++bZ m.id++ [32]++m.txt)) i;rw[fB]at h2;omega
 split
 ·split
  ·omega
  ·rename_i i _;have h1:=vN (s:=s.aZ i) m.id true;have h2:=ru (s:=s) i;omega
 split
 ·have h0:=vk (s:=s) c;dsimp only;have h1:(({s.conn c with aq:=aK (fun x=>x.n==c) (fun x=>{x with drains:=true}) (s.conn c).aq}:St)).sz=(s.conn c).sz:=by
   unfold sz;dsimp only;rw[cV]
  have h2:=vz (s:=({s.conn c with aq:=aK (fun x=>x.n==c) (fun x=>{x with drains:=true}) (s.conn c).aq}:St)) c;have h3:=MO (s:=(({s.conn c with aq:=aK (fun x=>x.n==c) (fun x=>{x with drains:=true}) (s.conn c).aq}:St)).idle c) c;refine ar h3 ?_;omega
 ·omega
theorem rD(h:Inv s):(s.ring.flatMap (·.ids)).length<=s.reqs.length:=by
 have h1:(s.ring.flatMap (·.ids)).length<=(s.ks.map (·.1)).length:=by refine List.Nodup.length_le_of_subset h.once (fun i hi=> ?_);obtain⟨l,hl,BS⟩:=List.mem_flatMap.1 hi;exact lT ((h.ring l hl).2 i BS)
 simpa[ks]using h1
theorem I3(h:Inv s){l:Ln}(hl:l∈s.ring):l.ids.length<=s.reqs.length:=by refine ar ?_ (rD h);obtain⟨a,b,e⟩:=List.append_of_mem hl;rw[e,List.flatMap_append,List.flatMap_cons];simp only[aH];omega
theorem D5(h:Inv s):s.ring.length<=s.reqs.length:=by
 refine ar ?_ (rD h);have: ∀r:List Ln,(∀l∈r,l.ids≠ [])->r.length<=(r.flatMap (·.ids)).length:=by
  intro r
  induction r with
  |nil=>intro _;exact af _
  |cons x r ih=>intro hr;have h1:=ih (fun l hl=>hr l (aV _ hl));have h2:=List.length_pos_iff.2 (hr x (bY ..));rw[List.flatMap_cons,aH,List.length_cons];omega
 exact this _ (fun l hl=>(h.ring l hl).1)
end St
end Mc
namespace Mr
open Go.RowKit aJ Mc
variable{w:World}{F:Ft}{p:Nat}{s:St}{g:List (Ln×Value)}
def ot(r:Rq):List Value:= [.int .i64 r.id, .int .i64 r.conn, .string ⟨r.ten.toArray⟩, .string ⟨r.txt.toArray⟩, .int .i64 r.n, .int .i64 r.left, .bool r.hedged]
def mr(a:At):List Value:= [.int .i64 a.id, .int .i64 a.n, .int .i64 a.conn, .int .i64 a.sY, .int .i64 a.fx]
def RZ(c:Cn):List Value:= [.int .i64 c.n, .string ⟨c.rest.toArray⟩, .bool c.drains, .bool c.gone]
def DV(x:Int×Bs):List Value:= [.int .i64 x.1, .string ⟨(aG.line x.2).toArray⟩]
def jt(x:Int):List Value:= [.int .i64 x]
def Te(x:Ln×Value):List Value:= [.string ⟨x.1.ten.toArray⟩,x.2]
theorem MW(c:Cn):(RZ c).length=4:=rfl
theorem NZ(x:Int):(jt x).length=1:=rfl
def fc(v:Value)(l:List Rq):aJ:=rowA 174 7 v l.length (flat ot l)
def YD(v:Value)(l:List At):aJ:=rowA 170 5 v l.length (flat mr l)
def Rg(v:Value)(l:List Cn):aJ:=rowA 166 4 v l.length (flat RZ l)
def gZ(v:Value)(l:List (Int×Bs)):aJ:=rowA 51 2 v l.length (flat DV l)
def inA(v:Value)(l:List Int):aJ:=rowA 3 1 v l.length (flat jt l)
def XC(v:Value)(l:List (Ln×Value)):aJ:=aa (rowA 176 2 v l.length (flat Te l)) (all (fun x=>inA x.2 x.1.ids) l)
structure MV where
 rv:Value
 av:Value
 gv:Value
 wv:Value
 cv:Value
 ov:Value
def mCs(s:St)(m:MV):Array Value:= #[.int .i64 s.c.le, .int .i64 s.c.re, .int .i64 s.c.ca, .int .i64 s.c.bo, .int .i64 s.c.he, .int .i64 s.now,m.rv,m.av,m.gv,m.wv,m.cv,m.ov]
def zC(p:Nat)(s:St)(m:MV):aJ:=blk p (.cells (mCs s m) 162 (0,0))
def gD(p:Nat)(s:St)(m:MV)(g:List (Ln×Value)):aJ:=
 aa (zC p s m) (aa (fc m.rv s.reqs) (aa (YD m.av s.ah) (aa (XC m.gv g) (aa (inA m.wv s.wait) (aa (Rg m.cv s.aq) (gZ m.ov s.out))))))
def KJ(p:Nat)(s:St):aJ:=ex fun m:MV=>ex fun g:List (Ln×Value)=>aa (fact (g.map (·.1)=s.ring)) (gD p s m g)
structure MF(w:World)(p:Nat)(s:St)(m:MV)(g:List (Ln×Value)):Prop where
 blk:w.heap[p]?=some (.cells (mCs s m) 162 (0,0))
 ring:g.map (·.1)=s.ring
 rq: ∃G,(fc m.rv s.reqs).holds w G
 at': ∃G,(YD m.av s.ah).holds w G
 ln: ∃G,(rowA 176 2 m.gv g.length (flat Te g)).holds w G
 lns: ∀x∈g,∃G,(inA x.2 x.1.ids).holds w G
 wt: ∃G,(inA m.wv s.wait).holds w G
 cn: ∃G,(Rg m.cv s.aq).holds w G
 ou: ∃G,(gZ m.ov s.out).holds w G
theorem vP{α:Type}{A:α->aJ}{l:List α}(h:(all A l).holds w F): ∀x∈l,∃G,(A x).holds w G:=by
 induction l generalizing F with
 |nil=>intro x hx;cases hx
 |cons y l ih=>
  obtain⟨G,H,ha,hb,_⟩:=h;intro x hx;rcases List.mem_cons.1 hx with e|e
  ·exact⟨G,e▸ha⟩
  ·exact ih hb x e
theorem UU{m:MV}(hr:g.map (·.1)=s.ring)(h:(gD p s m g).holds w F):MF w p s m g:=by obtain⟨_,_,h1,⟨_,_,h2,⟨_,_,h3,⟨_,_,⟨_,_,h4,h4',_⟩,⟨_,_,h5,⟨_,_,h6,h7,_⟩,_⟩,_⟩,_⟩,_⟩,_⟩:=h;exact⟨h1.1,hr,⟨_,h2⟩,⟨_,h3⟩,⟨_,h4⟩,vP h4',⟨_,h5⟩,⟨_,h6⟩,⟨_,h7⟩⟩
theorem MF.lt{m:MV}(h:MF w p s m g):p<w.heap.size:=(cC.1 h.blk).1
theorem MF.cell{m:MV}(h:MF w p s m g)(j:Nat):w.cell? ⟨p,j,none⟩=(mCs s m)[j]?:=by simp only[World.cell?,h.blk];rfl
theorem MF.frozen{m:MV}(h:MF w p s m g)(j:Nat):w.frozen? ⟨p,j,none⟩=false:=by simp only[World.frozen?,h.blk];simp
theorem MF.below{w':World}{m:MV}(h:MF w p s m g)(hb:Below w.heap.size w w'):MF w' p s m g:=by have k: ∀{A:aJ},(∃G,A.holds w G)-> ∃G,A.holds w' G:=fun⟨G,hG⟩=>⟨G,aJ.keep _ hG (fun k hk=>hb.block k (aJ.lt _ hG k hk))⟩;exact⟨by rw[hb.block p h.lt];exact h.blk,h.ring,k h.rq,k h.at',k h.ln,fun x hx=>k (h.lns x hx),k h.wt,k h.cn,k h.ou⟩
variable{w:World}{G:Ft}
def ze:Option Nat->Int
 |none=> -1
 |some k=>k
section
variable{α:Type}{l:List α}{p:α->Bool}{k:Nat}
theorem tA(hk:k<l.length)(hq:p (l[k]'hk)=true)(hi:k<=l.findIdx p):l.findIdx? p=some k:=by rw[List.findIdx?_eq_some_iff_getElem];exact⟨hk,hq,fun j hj=>by simpa using List.not_of_lt_findIdx (bD hj hi)⟩
theorem lQ(hk:k<l.length)(hq:p (l[k]'hk)=false)(hi:k<=l.findIdx p):k+1<=l.findIdx p:=by
 rcases Nat.lt_or_eq_of_le hi with h|h
 ·exact h
 ·exfalso;have aN:l.findIdx p<l.length:=by omega
  have h2:=List.findIdx_getElem (w:=aN);simp only[<-h]at h2;rw[hq]at h2;cases h2
theorem pT(hi:l.length<=l.findIdx p):l.findIdx? p=none:=by
 rw[List.findIdx?_eq_none_iff];intro x hx;cases h:p x with
 |false=>rfl
 |true=>have:=List.findIdx_lt_length_of_exists ⟨x,hx,h⟩;omega
theorem RT(hk:k<l.length)(hq:p (l[k]'hk)=true):l.any p=true:=List.any_eq_true.2 ⟨_,bS _,hq⟩
theorem RS(hi:l.length<=l.findIdx p):l.any p=false:=by have h:=List.findIdx?_eq_none_iff.1 (pT hi);rw[List.any_eq_false];intro x hx;simp[h x hx]
end
section
variable{w:World}{G:Ft}{g off cap:Nat}{k:Nat}
theorem Cx{l:List Cn}(h:(Rg (.slice (some ⟨g,off,none⟩) l.length cap) l).holds w G)(hk:k<l.length):w.cell? ⟨g,off+k*4,none⟩=some (.int .i64 (l[k]'hk).n)∧w.cell? ⟨g,off+k*4+1,none⟩=some (.string ⟨(l[k]'hk).rest.toArray⟩)∧w.cell? ⟨g,off+k*4+2,none⟩=some (.bool (l[k]'hk).drains)∧w.cell? ⟨g,off+k*4+3,none⟩=some (.bool (l[k]'hk).gone):=by
 have c: ∀j,j<4->w.cell? ⟨g,off+k*4+j,none⟩=(RZ (l[k]'hk))[j]?:=fun j hj=>by rw[Nat.add_assoc,bf h (k*4+j) (by omega),vr MW l k j hk hj]
 exact⟨c 0 (by omega),c 1 (by omega),c 2 (by omega),c 3 (by omega)⟩
theorem Bj{l:List Int}(h:(inA (.slice (some ⟨g,off,none⟩) l.length cap) l).holds w G)(hk:k<l.length):w.cell? ⟨g,off+k,none⟩=some (.int .i64 (l[k]'hk)):=by have:=vr NZ l k 0 hk (by omega);rw[bf h k (by omega)];simpa[jt]using this
end
theorem cE{e:TypeId}{size n:Nat}{v:Value}{xs:List Value}(h:(rowA e size v n xs).holds w G): ∃ao cap,v= .slice ao n cap∧n<=cap∧(0<n-> ∃g off,ao=some ⟨g,off,none⟩):=by obtain⟨ao,cap,h1,h2,_,h3,_⟩:=bX h;exact⟨ao,cap,h1,h2,fun hn=>by obtain⟨g,off,e,_⟩:=h3 hn;exact⟨g,off,e⟩⟩
theorem aI{A:aJ}{w':World}(h:A.holds w G)(hb:Below w.heap.size w w'):A.holds w' G:=A.keep h (fun k hk=>hb.block k (A.lt h k hk))
end Mr
namespace aG
open Go.RowKit
theorem ae(w:World)(n:Nat)(a:Addr)(v:Value):(w.drewN n).setCell a v=(w.setCell a v).drewN n:=rfl
theorem ag(w:World)(n:Nat)(o:Obj):(w.drewN n).alloc o=(w.alloc o).drewN n:=rfl
attribute [local go_sem] ae
attribute [local go_sem] ag
theorem Below.wh{B:Nat}{a w:World}(h:Below B a w)(n:Nat):Below B a (w.drewN n):=⟨h.os,h.tape,h.output,h.size,h.block⟩
theorem Hk(s:ByteArray)(w:World)(hs:s.size<=1048576):Calls prog 58 #[.string s] w fun e w'=>e= .returned (.string ⟨(line s.data.toList).toArray⟩)∧Below w.heap.size w w':=by
 go_enter func58,ntmps58;go_wp2;go_loopw [4] (fun i wr=> ∃k n:Nat,k<=s.size∧i= .int .i64 k∧wr=(w.alloc (.cells #[.int .i64 (sm s.data.toList k 0), .int .i64 (sm s.data.toList k 1), .int .i64 (sm s.data.toList k 2), .int .i64 (sm s.data.toList k 3)] 3)).drewN n) (fun i _=>s.size-(intOf i).toNat)
 case atStart=>exact⟨0,0,bh _,rfl,rfl⟩
 case round=>
  obtain⟨k,n,hk,rfl,rfl⟩:=hrel;have b0:=gQ s.data.toList k 0;have b1:=gQ s.data.toList k 1;have b2:=gQ s.data.toList k 2;have b3:=gQ s.data.toList k 3;by_cases aN:k<s.size
  ·have z6:(s[k].toNat:Int)<=255:=by have:=s[k].toNat_lt;omega
   have LR:(s.data.toList[k]?.getD 0).toNat=s[k].toNat:=by rw[aY (by simpa using aN)];rfl
   have hm:k %4=0∨k %4=1∨k %4=2∨k %4=3:=by omega
   have HG:Hid ((s.data.toList[k]?.getD 0).toNat=s[k].toNat):=LR;clear LR;rcases hm with hm|hm|hm|hm
   ·have V2:(k:Int) %4=0:=by omega
    have HK:Hid (k %4=0):=hm;clear hm;go_wp2
    go_region
    go_wp2;go_roundw
    case rel=>refine⟨k+1,n+1,by omega,by go_num, ?_⟩;have e:=HK.out;rw[kB _ _ 0 e,bL _ _ 1 (by omega),bL _ _ 2 (by omega),bL _ _ 3 (by omega),HG.out]
    case measure=>simp[intOf];omega
   ·have V2:(k:Int) %4=1:=by omega
    have HK:Hid (k %4=1):=hm;clear hm;go_wp2
    go_region
    go_wp2;go_roundw
    case rel=>refine⟨k+1,n+1,by omega,by go_num, ?_⟩;have e:=HK.out;rw[kB _ _ 1 e,bL _ _ 0 (by omega),bL _ _ 2 (by omega),bL _ _ 3 (by omega),HG.out]
    case measure=>simp[intOf];omega
   ·have V2:(k:Int) %4=2:=by omega
    have HK:Hid (k %4=2):=hm;clear hm;go_wp2
    go_region
    go_wp2;go_roundw
    case rel=>refine⟨k+1,n+1,by omega,by go_num, ?_⟩;have e:=HK.out;rw[kB _ _ 2 e,bL _ _ 0 (by omega),bL _ _ 1 (by omega),bL _ _ 3 (by omega),HG.out]
    case measure=>simp[intOf];omega
   ·have V2:(k:Int) %4=3:=by omega
    have HK:Hid (k %4=3):=hm;clear hm;go_wp2
    go_region
    go_wp2;go_roundw
    case rel=>refine⟨k+1,n+1,by omega,by go_num, ?_⟩;have e:=HK.out;rw[kB _ _ 3 e,bL _ _ 0 (by omega),bL _ _ 1 (by omega),bL _ _ 2 (by omega),HG.out]
    case measure=>simp[intOf];omega
  ·have HK:Hid (k=s.data.toList.length):=by
    have e:s.data.toList.length=s.size:=by simp
    show k=_;omega
   go_wp2;go_loopw [35,5] (fun i o wr=> ∃j n:Nat,j<=4∧i= .int .i64 j∧o= .string ⟨(acc s.data.toList k j).toArray⟩∧wr=(w.alloc (.cells #[.int .i64 (sm s.data.toList k 0), .int .i64 (sm s.data.toList k 1), .int .i64 (sm s.data.toList k 2), .int .i64 (sm s.data.toList k 3)] 3)).drewN n) (fun i _ _=>4-(intOf i).toNat)
   case atStart=>exact⟨0,n,by omega,rfl,kZ (Ce s k),rfl⟩
   case round=>
    obtain⟨j,n,hj,rfl,rfl,rfl⟩:=hrel;have Y6:=Vi s.data.toList k j 1048576 (by simpa using hs) hj;by_cases abH:j<4
    ·have hm:j=0∨j=1∨j=2∨j=3:=by omega
     rcases hm with rfl|rfl|rfl|rfl
     ·go_wp2
      go_quiet (fail)
      go_wp2;go_roundw
      case rel=>exact⟨_,_,by omega,by go_num,kZ (qY _ _ _),rfl⟩
      case measure=>simp[intOf]
     ·go_wp2
      go_quiet (fail)
      go_wp2;go_roundw
      case rel=>exact⟨_,_,by omega,by go_num,kZ (qY _ _ _),rfl⟩
      case measure=>simp[intOf]
     ·go_wp2
      go_quiet (fail)
      go_wp2;go_roundw
      case rel=>exact⟨_,_,by omega,by go_num,kZ (qY _ _ _),rfl⟩
      case measure=>simp[intOf]
     ·go_wp2
      go_quiet (fail)
      go_wp2;go_roundw
      case rel=>exact⟨_,_,by omega,by go_num,kZ (qY _ _ _),rfl⟩
      case measure=>simp[intOf]
    ·obtain rfl:j=4:=by omega
     go_wp2;go_ret;refine⟨?_, ?_⟩
     ·exact RQ _ _ HK.out
     ·exact Below.wh ((au _ _).alloc (af _) _) n
end aG
end Go.Proofs.YtffamlbkmjmipaaGreatDoor
namespace Go.Proofs
open Go.Shelf
def Tryz.lays169_ren:Go.Shelf.Ren:=⟨fun|169=>130|n=>n,fun|70=>189|9=>9|0=>0|72=>191|37=>35|127=>230|3=>3|5=>5|n=>n,fun|n=>n⟩
theorem Tryz.lays169:Go.Proofs.Lays.n169 Tryz.prog Tryz.lays169_ren:={mixed:=by kernel_rfl,f169:=Tryz.func130.trans (congrArg some (by kernel_rfl)),t0:=Tryz.underlying0,a0:=Tryz.isAgg0,z0:=Tryz.sizeOf0,v0:=Tryz.zeroValue0,t3:=Tryz.underlying3,a3:=Tryz.isAgg3,z3:=Tryz.sizeOf3,v3:=Tryz.zeroValue3,t9:=Tryz.underlying9,a9:=Tryz.isAgg9,z9:=Tryz.sizeOf9,v9:=Tryz.zeroValue9,t37:=Tryz.underlying35,a37:=Tryz.isAgg35,z37:=Tryz.sizeOf35,v37:=Tryz.zeroValue35,t70:=Tryz.underlying189,a70:=Tryz.isAgg189,z70:=Tryz.sizeOf189,v70:=Tryz.zeroValue189,t72:=Tryz.underlying191,a72:=Tryz.isAgg191,z72:=Tryz.sizeOf191,v72:=Tryz.zeroValue191,t127:=Tryz.underlying230,a127:=Tryz.isAgg230,z127:=Tryz.sizeOf230,v127:=Tryz.zeroValue230}
theorem Tryz.Builder_Extra_169:Builder.Extra Tryz.prog Tryz.lays169_ren:={sizeBuilder:=by kernel_rfl,liesBuilder:=by kernel_rfl,t5:=Tryz.underlying5,a5:=Tryz.isAgg5,z5:=Tryz.sizeOf5,v5:=Tryz.zeroValue5,infoByte:=by kernel_rfl,cellsByte:=by kernel_rfl,sizeByte:=by kernel_rfl,neB5:=by decide}
open Go.RowKit in
theorem Tryz.Builder_String_any_k(B b:Nat)(l:List UInt8)(w:World)(h:Lib.IsBuilderF 191 5 B b (Lib.byteCells l) w)(hBw:B<=w.heap.size):
  Calls Tryz.prog 130 #[.pointer (some ⟨b,0,none⟩)] w fun e w'=>e= .returned (.string ⟨l.toArray⟩)∧(Lib.IsBuilderF 191 5 B b (Lib.byteCells l) w'∧Below B w w'∧Lib.OthersKept 5 (some b) w w'):=Any.Builder_String_any_k Tryz.lays169 Tryz.Builder_Extra_169 B b l w h hBw
end Go.Proofs
namespace Go.Proofs.YtffamlbkmjmipaaGreatDoor
open _root_.Go.Proofs.Tryz
namespace Rx
open Go.RowKit
set_option linter.unusedVariables false
theorem sizeBuilder:(prog.info? 191).map (·.size)=some 2:=by kernel_rfl
theorem liesBuilder:liesAt prog prog.depth 191 (2/prog.cellsOf 191) 0 191 1=true:=by kernel_rfl
theorem infoByte:(prog.info? 5).map (fun i=>(i.zero,i.size,i.bytes))=some (some (.int .u8 0),1,1):=by kernel_rfl
theorem vV(b:Nat)(w:World)(h0:w.cell? ⟨b,0,none⟩=some (.pointer (some ⟨b,0,none⟩))):Calls prog 168 #[.pointer (some ⟨b,0,none⟩)] w fun e w'=>e= .returned (.tuple #[])∧w'=w:=by obtain⟨j,hj,_⟩:=Option.map_eq_some_iff.1 sizeBuilder;go_enter func168,ntmps168;go_wp2;rw[Lib.run_neq_ptr_same w _ underlying189 hj];go_wp2;go_end0;exact⟨rfl,rfl⟩
theorem uV(b:Nat)(w:World)(h0:w.cell? ⟨b,0,none⟩=some (.pointer none))(IZ:w.shape? b=some (191,2))(hfz:w.frozen? ⟨b,0,none⟩=false):Calls prog 168 #[.pointer (some ⟨b,0,none⟩)] w fun e w'=>e= .returned (.tuple #[])∧w'=w.setCell ⟨b,0,none⟩ (.pointer (some ⟨b,0,none⟩)):=by obtain⟨j,hj,hjs⟩:=Option.map_eq_some_iff.1 sizeBuilder;go_enter func168,ntmps168;go_wp2;rw[Lib.run_to_unsafe w ⟨b,0,none⟩ underlying189 underlying263 hj (by rw[hjs];decide) IZ (Nat.zero_lt_succ 1)];simp only[Result.andThen];rw[Oper.upon_value];go_wp2;rw[run_callFunc_extern func210 (by kernel_rfl) (by kernel_rfl) (by kernel_rfl) (e:=Extern.AbiNoEscape.same) (by kernel_rfl)];rw[Lib.run_noEscape];simp only[Result.andThen];rw[Oper.upon_value];go_wp2;rw[Lib.run_from_unsafe w ⟨b,0,none⟩ underlying263 underlying189 hj IZ liesBuilder];simp only[Result.andThen];rw[Oper.upon_value];go_wp2;go_end0;exact⟨rfl,rfl⟩
theorem CB(B b:Nat)(bs:List Value)(w:World)(h:Lib.IsBuilderF 191 5 B b bs w):Calls prog 168 #[.pointer (some ⟨b,0,none⟩)] w fun e w'=>e= .returned (.tuple #[])∧(Lib.BuilderAtF 191 5 B b (.pointer (some ⟨b,0,none⟩)) bs w'∧Below B w w'∧Lib.OthersKept 5 (some b) w w'):=by
 rcases h with h|h
 ·refine(uV b w h.cell0 h.shape h.frozen0).mono ?_;rintro e w'⟨rfl,rfl⟩;exact⟨rfl,h.used _,(au B w).setCell (p:=⟨b,0,none⟩) h.1 _,(Lib.OthersKept.refl _ _ w).setCell ⟨b,0,none⟩ rfl _⟩
 ·refine(vV b w h.cell0).mono ?_;rintro e w'⟨rfl,rfl⟩;exact⟨rfl,h,au B _,Lib.OthersKept.refl _ _ _⟩
theorem dP(B b:Nat)(bs:List Value)(c:Int)(w:World)(h:Lib.IsBuilderF 191 5 B b bs w)(hlen:bs.length+1<=140737488355328)(hBw:B<=w.heap.size):Calls prog 129 #[.pointer (some ⟨b,0,none⟩), .int .u8 c] w fun e w'=>e= .returned .nilIface∧(Lib.BuilderAtF 191 5 B b (.pointer (some ⟨b,0,none⟩)) (bs++ [.int .u8 c]) w'∧Below B w w'∧Lib.OthersKept 5 (some b) w w'):=by
 obtain⟨i0,hi,mz,ja,jK⟩:=info_parts infoByte;go_enter func129,ntmps129;go_wp2_with (go_at_call 168;refine(CB B b bs _ h).mono ?_);rintro e w1⟨rfl,h1,bT,Rl⟩;obtain⟨hB,v,VK,cY,cA⟩:=h1;have c0:w1.cell? ⟨b,0,none⟩=some (.pointer (some ⟨b,0,none⟩)):=by rw[Lib.cell_of_heap VK];rfl
 have c1:w1.cell? ⟨b,1,none⟩=some v:=by rw[Lib.cell_of_heap VK];rfl
 go_wp2_with (at_builtin;refine wpList_append_ownF _ rfl _ _ 35 rfl B 5 i0 (.int .u8 0) 1 1 underlying35 hi mz ja jK rfl (by decide) _ _ _ rfl (cY.alloc _) ⟨w1.heap.size,0,none⟩ 1 1 [.int .u8 c] rfl rfl ?c1 ?c2 ?c3 ?c4 ?c5 ?_)
 case c1=>
  intro j u hj
  match j,hj with
  |0,hj=>simp at hj;subst hj;simp[Addr.add]
 case c2=>intro u hu;simp at hu;subst hu;rfl
 case c3=>unfold maxLen;omega
 case c4=>omega
 case c5=>have:=bT.size;simp;omega
 intro v' w2 UF mP _;have aN:b<w1.heap.size:=by
  rcases Nat.lt_or_ge b w1.heap.size with h'|h'
  ·exact h'
  ·simp[Array.getElem?_eq_none h']at VK
 have cZ:w2.heap[b]?=some (.cells #[.pointer (some ⟨b,0,none⟩),v] 191 (0,0)):=by rw[mP.block b (by simp;omega) (fun e=>cA e.symm),Lib.alloc_old w1 _ b aN];exact VK
 have d0:w2.cell? ⟨b,0,none⟩=some (.pointer (some ⟨b,0,none⟩)):=by rw[Lib.cell_of_heap cZ];rfl
 have d1:w2.cell? ⟨b,1,none⟩=some v:=by rw[Lib.cell_of_heap cZ];rfl
 have f1:w2.frozen? ⟨b,1,none⟩=false:=Lib.frozen_of_heap cZ 1;obtain⟨g,cap,rfl⟩: ∃g cap,v'= .slice (some ⟨g,0,none⟩) (bs.length+1) cap:=by
  rcases UF.2 with⟨_,h0⟩|⟨g,cap,cur,fz,hv,_⟩
  ·omega
  ·exact⟨g,cap,hv⟩
 go_wp2;go_ret;refine⟨rfl, ?_, ?_,((Rl.alloc _).grown mP (Lib.ownsRowF_kind (cY.alloc _))).setCell ⟨b,1,none⟩ rfl _⟩
 ·exact Lib.BuilderAtF.put (T:=191) (e:=5) hB cZ (bs':=bs++ [.int .u8 c]) (by simpa using UF) (by decide)
 ·exact((bT.alloc (by have:=bT.size;omega) _).grown mP (by have:=bT.size;simp;omega) (fun k hk=>(cY.lt k hk).1)).setCell (p:=⟨b,1,none⟩) hB _
end Rx
namespace bG
open Go.RowKit
def dz(by':UInt8)(p:List (List UInt8)×List UInt8)(c:UInt8):List (List UInt8)×List UInt8:=if c=by' then(p.1++ [p.2], [])else(p.1,p.2++ [c])
def gu(by':UInt8)(l:List UInt8):List (List UInt8)×List UInt8:=l.foldl (dz by') ([], [])
def bB(by':UInt8)(l:List UInt8):List (List UInt8):=(gu by' l).1++ [(gu by' l).2]
theorem nv(by':UInt8)(l:List UInt8)(c:UInt8):gu by' (l++ [c])=dz by' (gu by' l) c:=by simp[gu,List.foldl_append]
theorem vW(by':UInt8)(l:List UInt8):(gu by' l).1.length<=l.length∧(gu by' l).2.length<=l.length∧ ∀x∈(gu by' l).1,x.length<=l.length:=by
 rw[<-List.reverse_reverse l];generalize l.reverse=r
 induction r with
 |nil=>simp[gu]
 |cons c r ih=>
  rw[List.reverse_cons,nv];unfold dz;obtain⟨h1,h2,h3⟩:=ih;split
  ·refine⟨by simp at*;omega,by simp,fun x hx=> ?_⟩;rw[List.mem_append]at hx;rcases hx with hx|hx
   ·have:=h3 x hx;simp at*;omega
   ·simp at hx;subst hx;simp at*;omega
  ·refine⟨by simp at*;omega,by simp at*;omega,fun x hx=> ?_⟩;have:=h3 x hx;simp at*;omega
def strs(l:List (List UInt8)):List Value:=l.map fun x=> .string ⟨x.toArray⟩
theorem take_snoc(s:ByteArray)(k:Nat)(h:k<s.size):s.data.toList.take (k+1)=s.data.toList.take k++ [s[k]]:=by rw[iG (by simpa using h)];rfl
theorem QV(s:ByteArray):s.data.toList.take s.size=s.data.toList:=List.take_of_length_le (by simp)
