import Derived.Test.YtffamlbkmjmipaaGreatDoorC02
import Derived.Shelf.Strings.BuilderK
import Derived.BigCall
set_option maxHeartbeats 8000000
set_option maxRecDepth 100000
namespace Go.Proofs.YtffamlbkmjmipaaGreatDoor
open _root_.Go.Proofs.Tryz
namespace Mc
open bA
namespace St
variable{s:St}
def sz(s:St):Nat:=s.out.length+4*s.ag.length+8*s.wait.length+s.reqs.length+s.ak.length+s.begun
theorem eA(c:Int)(t:Bs):(s.say c t).sz=s.sz+1:=by unfold say sz;simp;omega
theorem rX(c:Int):(s.conn c).sz<=s.sz+1:=by
 unfold conn;split
 ·omega
 ·unfold sz;simp;omega
theorem Ix(c:Int):(s.dR c).sz<=s.sz+1:=by
 unfold dR;split
 ·rw[eA];unfold sz;dsimp only;rw[cU];omega
 ·omega
theorem ku{i:Nat}{a:At}(h:s.ag[i]?=some a):(s.aU i).sz+3<=s.sz:=by unfold aU;rw[h];dsimp only;have h1:=Ix (s:={s with ag:=s.ag.eraseIdx i}) a.conn;have h2:=iz h;unfold sz at h1⊢;dsimp only at h1;omega
theorem ow(i:Nat):(s.aU i).sz<=s.sz:=by
 cases h:s.ag[i]? with
 |none=>unfold aU;rw[h];exact af _
 |some a=>have:=ku h;omega
theorem sg(c:Int):(s.idle c).sz<=s.sz:=by unfold idle sz;dsimp only;have:=List.length_filter_le (· !=c) s.wait;omega
theorem lJ(id:Int)(first:Bool):(s.aT id first).sz=s.sz:=by unfold aT;split<;>rfl
theorem Bk: ∀(f:Nat) (s:St) (id:Int),(stops f s id).sz<=s.sz
 |0,s,id=>af _
 |f+1,s,id=>by
  unfold stops;split
  ·exact af _
  ·split
   ·exact af _
   ·rename_i i _ _ a ha;have h1:=Bk f ((s.say a.conn (aM id a.n)).aU i) id;have h2:=ku (s:=s.say a.conn (aM id a.n)) ha;rw[eA]at h2;omega
theorem IZ{α:Type}(p:α->Bool)(l:List α):(dropFirst p l).length<=l.length:=(dW p l).length_le
theorem pA(id:Int):(s.shut id).sz<=s.sz:=by have h:=Bk s.ag.length s id;have h2:=IZ (·.id==id) (stops s.ag.length s id).reqs;unfold sz at h⊢;unfold shut left;dsimp only;omega
theorem mm(id:Int)(f:Rq->Rq):(s.bg id f).sz=s.sz:=by unfold bg sz;dsimp only;rw[cU]
theorem sL(id:Int)(counts:Bool):(s.again id counts).sz<=s.sz+1:=by
 unfold again;split
 ·omega
 ·split
  ·omega
  ·split
   ·rename_i r _ _;have:=pA (s:=s.say r.conn ([101,114,114,32]++a7 id)) id;rw[eA]at this;exact this
   ·rw[lJ];split
    ·rw[mm];omega
    ·omega
theorem mH(id:Int):(s.again id false).sz<=s.sz:=by
 unfold again;split
 ·omega
 ·split
  ·omega
  ·simp only[Bool.false_and,Bool.false_eq_true,if_false];rw[lJ];exact af _
theorem xn{c:Int}{ws:List Int}(hw:s.wait=c::ws)(k:Nat):(s.give c ws k).sz<=s.sz:=by
 unfold give;split
 ·omega
 ·split
  ·omega
  ·split
   ·omega
   ·rw[eA];unfold sz;dsimp only;rw[cU,hw];simp;omega
theorem wN: ∀(f:Nat) (s:St),(bK f s).sz<=s.sz
 |0,s=>af _
 |f+1,s=>by
  unfold bK;split
  ·exact af _
  ·rename_i c ws hw;split
   ·exact af _
   ·rename_i k _;exact au (wN f _) (xn hw k)
theorem px:s.serve.sz<=s.sz:=wN _ _
theorem tR: ∀(f:Nat) (s:St),(bV f s).sz<=s.sz
 |0,s=>af _
 |f+1,s=>by
  unfold bV;split
  ·exact af _
  ·split
   ·exact af _
   ·rename_i i _ _ a ha;have h1:=tR f (((s.say a.conn (aM a.id a.n)).aU i).again a.id true);have h2:=ku (s:=s.say a.conn (aM a.id a.n)) ha;have h3:=sL (s:=(s.say a.conn (aM a.id a.n)).aU i) a.id true;rw[eA]at h2;omega
theorem wh(a:At):(s.bG a).sz=s.sz:=by
 unfold bG;split
 ·rfl
 ·split
  ·rw[lJ,mm]
  ·rfl
theorem xm: ∀(l:List At) (s:St),(l.foldl bG s).sz=s.sz
 | [],s=>rfl
 |a::l,s=>by rw[List.foldl_cons,xm l,wh]
theorem Oy:s.tick.sz<=s.sz:=by refine au px ?_;unfold dp;rw[xm];exact tR _ _
theorem nJ: ∀(f:Nat) (s:St) (i:Nat) (id c:Int),(bH f s i id c).sz<=s.sz
 |0,s,_,_,_=>af _
 |f+1,s,i,id,c=>by
  unfold bH;split
  ·exact af _
  ·split
   ·exact au (nJ f _ _ _ _) (ow i)
   ·exact nJ f _ _ _ _
theorem kq: ∀(f:Nat) (s:St) (c:Int),(aO f s c).sz<=s.sz
 |0,s,_=>af _
 |f+1,s,c=>by
  unfold aO;split
  ·exact af _
  ·exact au (kq f _ _) (au (pA _) (nJ _ _ _ _ _))
theorem ko: ∀(f:Nat) (s:St) (c:Int),(aN f s c).sz<=s.sz
 |0,s,_=>af _
 |f+1,s,c=>by
  unfold aN;split
  ·exact af _
  ·split
   ·exact af _
   ·exact au (ko f _ _) (au (mH _) (ow _))
theorem IJ(c:Int):(s.close c).sz<=s.sz:=by refine au px (au (ko _ _ _) (au (kq _ _ _) (au ?_ (sg c))));have:=List.length_filter_le (fun x:Cn=>x.n !=c) s.ak;unfold sz idle;dsimp only;omega
theorem GM(c:Int)(m:Mg):(s.bT c m).sz<=s.sz+2:=by
 unfold bT;split
 ·rw[eA];omega
 ·split
  ·rw[eA];omega
  ·rw[lJ,eA];unfold sz;simp;omega
theorem ue(c:Int)(m:Mg):(s.message c m).sz<=s.sz+10:=by
 unfold message;split
 ·have:=GM (s:=s) c m;omega
 split
 ·split
  ·rw[eA];omega
  ·split
   ·have:=pA (s:=s.say c ([103,111,110,101,32]++a7 m.id)) m.id;rw[eA]at this;omega
   ·rw[eA];omega
 split
 ·split
  ·omega
  ·have:=rX (s:=s) c;dsimp only;split
   ·omega
   ·unfold sz at this⊢;simp at*;omega
 split
 ·unfold sz;simp
 split
 ·split
  ·omega
  ·split
   ·omega
   ·rename_i i _ _ r _;have h1:=pA (s:=(s.say r.conn ([118,97,108,32]++a7 m.id++ [32]++m.txt)).aU i) m.id;have h2:=ow (s:=s.say r.conn ([118,97,108,32]++a7 m.id++ [32]++m.txt)) i;rw[eA]at h2;omega
 split
 ·split
  ·omega
  ·rename_i i _;have h1:=sL (s:=s.aU i) m.id true;have h2:=ow (s:=s) i;omega
 split
 ·have h0:=rX (s:=s) c;dsimp only;have h1:(({s.conn c with ak:=aA (fun x=>x.n==c) (fun x=>{x with drains:=true}) (s.conn c).ak}:St)).sz=(s.conn c).sz:=by
   unfold sz;dsimp only;rw[cU]
  have h2:=sg (s:=({s.conn c with ak:=aA (fun x=>x.n==c) (fun x=>{x with drains:=true}) (s.conn c).ak}:St)) c;have h3:=Ix (s:=(({s.conn c with ak:=aA (fun x=>x.n==c) (fun x=>{x with drains:=true}) (s.conn c).ak}:St)).idle c) c;refine au h3 ?_;omega
 ·omega
theorem oD(h:Inv s):(s.ring.flatMap (·.ids)).length<=s.reqs.length:=by
 have h1:(s.ring.flatMap (·.ids)).length<=(s.ks.map (·.1)).length:=by refine List.Nodup.length_le_of_subset h.once (fun i hi=> ?_);obtain⟨l,hl,Fq⟩:=List.mem_flatMap.1 hi;exact kE ((h.ring l hl).2 i Fq)
 simpa[ks]using h1
theorem Ee(h:Inv s){l:Ln}(hl:l∈s.ring):l.ids.length<=s.reqs.length:=by refine au ?_ (oD h);obtain⟨a,b,e⟩:=List.append_of_mem hl;rw[e,List.flatMap_append,List.flatMap_cons];simp only[aC];omega
theorem A0(h:Inv s):s.ring.length<=s.reqs.length:=by
 refine au ?_ (oD h);have: ∀r:List Ln,(∀l∈r,l.ids≠ [])->r.length<=(r.flatMap (·.ids)).length:=by
  intro r
  induction r with
  |nil=>intro _;exact af _
  |cons x r ih=>intro hr;have h1:=ih (fun l hl=>hr l (aY _ hl));have h2:=List.length_pos_iff.2 (hr x (cB ..));rw[List.flatMap_cons,aC,List.length_cons];omega
 exact this _ (fun l hl=>(h.ring l hl).1)
end St
end Mc
namespace Mr
open Go.RowKit aD Mc
variable{w:World}{F:Ft}{p:Nat}{s:St}{g:List (Ln×Value)}
def mD(r:Rq):List Value:= [.int .i64 r.id, .int .i64 r.conn, .string ⟨r.ten.toArray⟩, .string ⟨r.txt.toArray⟩, .int .i64 r.n, .int .i64 r.left, .bool r.hedged]
def kO(a:At):List Value:= [.int .i64 a.id, .int .i64 a.n, .int .i64 a.conn, .int .i64 a.eJ, .int .i64 a.cS]
def My(c:Cn):List Value:= [.int .i64 c.n, .string ⟨c.rest.toArray⟩, .bool c.drains, .bool c.gone]
def o8(x:Int×Bs):List Value:= [.int .i64 x.1, .string ⟨(aP.line x.2).toArray⟩]
def CA(x:Int):List Value:= [.int .i64 x]
def tX(x:Ln×Value):List Value:= [.string ⟨x.1.ten.toArray⟩,x.2]
theorem IK(c:Cn):(My c).length=4:=rfl
theorem JW(x:Int):(CA x).length=1:=rfl
def dP(v:Value)(l:List Rq):aD:=rowA 174 7 v l.length (flat mD l)
def SL(v:Value)(l:List At):aD:=rowA 170 5 v l.length (flat kO l)
def LO(v:Value)(l:List Cn):aD:=rowA 166 4 v l.length (flat My l)
def dT(v:Value)(l:List (Int×Bs)):aD:=rowA 51 2 v l.length (flat o8 l)
def inA(v:Value)(l:List Int):aD:=rowA 3 1 v l.length (flat CA l)
def PB(v:Value)(l:List (Ln×Value)):aD:=aa (rowA 176 2 v l.length (flat tX l)) (all (fun x=>inA x.2 x.1.ids) l)
structure MV where
 rv:Value
 av:Value
 gv:Value
 wv:Value
 cv:Value
 ov:Value
def Ye(s:St)(m:MV):Array Value:= #[.int .i64 s.c.le, .int .i64 s.c.re, .int .i64 s.c.ca, .int .i64 s.c.bo, .int .i64 s.c.he, .int .i64 s.now,m.rv,m.av,m.gv,m.wv,m.cv,m.ov]
def vv(p:Nat)(s:St)(m:MV):aD:=blk p (.cells (Ye s m) 162 (0,0))
def fS(p:Nat)(s:St)(m:MV)(g:List (Ln×Value)):aD:=
 aa (vv p s m) (aa (dP m.rv s.reqs) (aa (SL m.av s.ag) (aa (PB m.gv g) (aa (inA m.wv s.wait) (aa (LO m.cv s.ak) (dT m.ov s.out))))))
def FT(p:Nat)(s:St):aD:=ex fun m:MV=>ex fun g:List (Ln×Value)=>aa (fact (g.map (·.1)=s.ring)) (fS p s m g)
structure MF(w:World)(p:Nat)(s:St)(m:MV)(g:List (Ln×Value)):Prop where
 blk:w.heap[p]?=some (.cells (Ye s m) 162 (0,0))
 ring:g.map (·.1)=s.ring
 rq: ∃G,(dP m.rv s.reqs).holds w G
 at': ∃G,(SL m.av s.ag).holds w G
 ln: ∃G,(rowA 176 2 m.gv g.length (flat tX g)).holds w G
 lns: ∀x∈g,∃G,(inA x.2 x.1.ids).holds w G
 wt: ∃G,(inA m.wv s.wait).holds w G
 cn: ∃G,(LO m.cv s.ak).holds w G
 ou: ∃G,(dT m.ov s.out).holds w G
theorem sN{α:Type}{A:α->aD}{l:List α}(h:(all A l).holds w F): ∀x∈l,∃G,(A x).holds w G:=by
 induction l generalizing F with
 |nil=>intro x hx;cases hx
 |cons y l ih=>
  obtain⟨G,H,ha,hb,_⟩:=h;intro x hx;rcases List.mem_cons.1 hx with e|e
  ·exact⟨G,e▸ha⟩
  ·exact ih hb x e
theorem PD{m:MV}(hr:g.map (·.1)=s.ring)(h:(fS p s m g).holds w F):MF w p s m g:=by obtain⟨_,_,h1,⟨_,_,h2,⟨_,_,h3,⟨_,_,⟨_,_,h4,h4',_⟩,⟨_,_,h5,⟨_,_,h6,h7,_⟩,_⟩,_⟩,_⟩,_⟩,_⟩:=h;exact⟨h1.1,hr,⟨_,h2⟩,⟨_,h3⟩,⟨_,h4⟩,sN h4',⟨_,h5⟩,⟨_,h6⟩,⟨_,h7⟩⟩
theorem MF.lt{m:MV}(h:MF w p s m g):p<w.heap.size:=(bZ.1 h.blk).1
theorem MF.cell{m:MV}(h:MF w p s m g)(j:Nat):w.cell? ⟨p,j,none⟩=(Ye s m)[j]?:=by simp only[World.cell?,h.blk];rfl
theorem MF.frozen{m:MV}(h:MF w p s m g)(j:Nat):w.frozen? ⟨p,j,none⟩=false:=by simp only[World.frozen?,h.blk];simp
theorem MF.below{w':World}{m:MV}(h:MF w p s m g)(hb:Below w.heap.size w w'):MF w' p s m g:=by have k: ∀{A:aD},(∃G,A.holds w G)-> ∃G,A.holds w' G:=fun⟨G,hG⟩=>⟨G,aD.keep _ hG (fun k hk=>hb.block k (aD.lt _ hG k hk))⟩;exact⟨by rw[hb.block p h.lt];exact h.blk,h.ring,k h.rq,k h.at',k h.ln,fun x hx=>k (h.lns x hx),k h.wt,k h.cn,k h.ou⟩
variable{w:World}{G:Ft}
def uM:Option Nat->Int
 |none=> -1
 |some k=>k
section
variable{α:Type}{l:List α}{p:α->Bool}{k:Nat}
theorem qf(hk:k<l.length)(hq:p (l[k]'hk)=true)(hi:k<=l.findIdx p):l.findIdx? p=some k:=by rw[List.findIdx?_eq_some_iff_getElem];exact⟨hk,hq,fun j hj=>by simpa using List.not_of_lt_findIdx (bE hj hi)⟩
theorem kx(hk:k<l.length)(hq:p (l[k]'hk)=false)(hi:k<=l.findIdx p):k+1<=l.findIdx p:=by
 rcases Nat.lt_or_eq_of_le hi with h|h
 ·exact h
 ·exfalso;have aQ:l.findIdx p<l.length:=by omega
  have h2:=List.findIdx_getElem (w:=aQ);simp only[<-h]at h2;rw[hq]at h2;cases h2
theorem nh(hi:l.length<=l.findIdx p):l.findIdx? p=none:=by
 rw[List.findIdx?_eq_none_iff];intro x hx;cases h:p x with
 |false=>rfl
 |true=>have:=List.findIdx_lt_length_of_exists ⟨x,hx,h⟩;omega
theorem Ms(hk:k<l.length)(hq:p (l[k]'hk)=true):l.any p=true:=List.any_eq_true.2 ⟨_,bY _,hq⟩
theorem Mq(hi:l.length<=l.findIdx p):l.any p=false:=by have h:=List.findIdx?_eq_none_iff.1 (nh hi);rw[List.any_eq_false];intro x hx;simp[h x hx]
end
section
variable{w:World}{G:Ft}{g off cap:Nat}{k:Nat}
theorem zj{l:List Cn}(h:(LO (.slice (some ⟨g,off,none⟩) l.length cap) l).holds w G)(hk:k<l.length):w.cell? ⟨g,off+k*4,none⟩=some (.int .i64 (l[k]'hk).n)∧w.cell? ⟨g,off+k*4+1,none⟩=some (.string ⟨(l[k]'hk).rest.toArray⟩)∧w.cell? ⟨g,off+k*4+2,none⟩=some (.bool (l[k]'hk).drains)∧w.cell? ⟨g,off+k*4+3,none⟩=some (.bool (l[k]'hk).gone):=by
 have c: ∀j,j<4->w.cell? ⟨g,off+k*4+j,none⟩=(My (l[k]'hk))[j]?:=fun j hj=>by rw[Nat.add_assoc,aW h (k*4+j) (by omega),js IK l k j hk hj]
 exact⟨c 0 (by omega),c 1 (by omega),c 2 (by omega),c 3 (by omega)⟩
theorem Eg{l:List Int}(h:(inA (.slice (some ⟨g,off,none⟩) l.length cap) l).holds w G)(hk:k<l.length):w.cell? ⟨g,off+k,none⟩=some (.int .i64 (l[k]'hk)):=by have:=js JW l k 0 hk (by omega);rw[aW h k (by omega)];simpa[CA]using this
end
theorem cE{e:TypeId}{size n:Nat}{v:Value}{xs:List Value}(h:(rowA e size v n xs).holds w G): ∃ao cap,v= .slice ao n cap∧n<=cap∧(0<n-> ∃g off,ao=some ⟨g,off,none⟩):=by obtain⟨ao,cap,h1,h2,_,h3,_⟩:=bS h;exact⟨ao,cap,h1,h2,fun hn=>by obtain⟨g,off,e,_⟩:=h3 hn;exact⟨g,off,e⟩⟩
theorem aF{A:aD}{w':World}(h:A.holds w G)(hb:Below w.heap.size w w'):A.holds w' G:=A.keep h (fun k hk=>hb.block k (A.lt h k hk))
end Mr
namespace aP
open Go.RowKit
theorem ae(w:World)(n:Nat)(a:Addr)(v:Value):(w.drewN n).setCell a v=(w.setCell a v).drewN n:=rfl
theorem ah(w:World)(n:Nat)(o:Obj):(w.drewN n).alloc o=(w.alloc o).drewN n:=rfl
attribute [local go_sem] ae
attribute [local go_sem] ah
theorem Below.s7{B:Nat}{a w:World}(h:Below B a w)(n:Nat):Below B a (w.drewN n):=⟨h.os,h.tape,h.output,h.size,h.block⟩
theorem C2(s:ByteArray)(w:World)(hs:s.size<=1048576):Calls prog 58 #[.string s] w fun e w'=>e= .returned (.string ⟨(line s.data.toList).toArray⟩)∧Below w.heap.size w w':=by
 go_enter func58,ntmps58;go_wp2;go_loopw [4] (fun i wr=> ∃k n:Nat,k<=s.size∧i= .int .i64 k∧wr=(w.alloc (.cells #[.int .i64 (sm s.data.toList k 0), .int .i64 (sm s.data.toList k 1), .int .i64 (sm s.data.toList k 2), .int .i64 (sm s.data.toList k 3)] 3)).drewN n) (fun i _=>s.size-(intOf i).toNat)
 case atStart=>exact⟨0,0,bk _,rfl,rfl⟩
 case round=>
  obtain⟨k,n,hk,rfl,rfl⟩:=hrel;have b0:=gV s.data.toList k 0;have b1:=gV s.data.toList k 1;have b2:=gV s.data.toList k 2;have b3:=gV s.data.toList k 3;by_cases aQ:k<s.size
  ·have tC:(s[k].toNat:Int)<=255:=by have:=s[k].toNat_lt;omega
   have JE:(s.data.toList[k]?.getD 0).toNat=s[k].toNat:=by rw[aV (by simpa using aQ)];rfl
   have hm:k %4=0∨k %4=1∨k %4=2∨k %4=3:=by omega
   have HG:Hid ((s.data.toList[k]?.getD 0).toNat=s[k].toNat):=JE;clear JE;rcases hm with hm|hm|hm|hm
   ·have QA:(k:Int) %4=0:=by omega
    have HK:Hid (k %4=0):=hm;clear hm;go_wp2
    go_region
    go_wp2;go_roundw
    case rel=>refine⟨k+1,n+1,by omega,by go_num, ?_⟩;have e:=HK.out;rw[jE _ _ 0 e,bJ _ _ 1 (by omega),bJ _ _ 2 (by omega),bJ _ _ 3 (by omega),HG.out]
    case measure=>simp[intOf];omega
   ·have QA:(k:Int) %4=1:=by omega
    have HK:Hid (k %4=1):=hm;clear hm;go_wp2
    go_region
    go_wp2;go_roundw
    case rel=>refine⟨k+1,n+1,by omega,by go_num, ?_⟩;have e:=HK.out;rw[jE _ _ 1 e,bJ _ _ 0 (by omega),bJ _ _ 2 (by omega),bJ _ _ 3 (by omega),HG.out]
    case measure=>simp[intOf];omega
   ·have QA:(k:Int) %4=2:=by omega
    have HK:Hid (k %4=2):=hm;clear hm;go_wp2
    go_region
    go_wp2;go_roundw
    case rel=>refine⟨k+1,n+1,by omega,by go_num, ?_⟩;have e:=HK.out;rw[jE _ _ 2 e,bJ _ _ 0 (by omega),bJ _ _ 1 (by omega),bJ _ _ 3 (by omega),HG.out]
    case measure=>simp[intOf];omega
   ·have QA:(k:Int) %4=3:=by omega
    have HK:Hid (k %4=3):=hm;clear hm;go_wp2
    go_region
    go_wp2;go_roundw
    case rel=>refine⟨k+1,n+1,by omega,by go_num, ?_⟩;have e:=HK.out;rw[jE _ _ 3 e,bJ _ _ 0 (by omega),bJ _ _ 1 (by omega),bJ _ _ 2 (by omega),HG.out]
    case measure=>simp[intOf];omega
  ·have HK:Hid (k=s.data.toList.length):=by
    have e:s.data.toList.length=s.size:=by simp
    show k=_;omega
   go_wp2;go_loopw [35,5] (fun i o wr=> ∃j n:Nat,j<=4∧i= .int .i64 j∧o= .string ⟨(acc s.data.toList k j).toArray⟩∧wr=(w.alloc (.cells #[.int .i64 (sm s.data.toList k 0), .int .i64 (sm s.data.toList k 1), .int .i64 (sm s.data.toList k 2), .int .i64 (sm s.data.toList k 3)] 3)).drewN n) (fun i _ _=>4-(intOf i).toNat)
   case atStart=>exact⟨0,n,by omega,rfl,kd (yS s k),rfl⟩
   case round=>
    obtain⟨j,n,hj,rfl,rfl,rfl⟩:=hrel;have Na:=P2 s.data.toList k j 1048576 (by simpa using hs) hj;by_cases aat:j<4
    ·have hm:j=0∨j=1∨j=2∨j=3:=by omega
     rcases hm with rfl|rfl|rfl|rfl
     ·go_wp2
      go_quiet (fail)
      go_wp2;go_roundw
      case rel=>exact⟨_,_,by omega,by go_num,kd (nY _ _ _),rfl⟩
      case measure=>simp[intOf]
     ·go_wp2
      go_quiet (fail)
      go_wp2;go_roundw
      case rel=>exact⟨_,_,by omega,by go_num,kd (nY _ _ _),rfl⟩
      case measure=>simp[intOf]
     ·go_wp2
      go_quiet (fail)
      go_wp2;go_roundw
      case rel=>exact⟨_,_,by omega,by go_num,kd (nY _ _ _),rfl⟩
      case measure=>simp[intOf]
     ·go_wp2
      go_quiet (fail)
      go_wp2;go_roundw
      case rel=>exact⟨_,_,by omega,by go_num,kd (nY _ _ _),rfl⟩
      case measure=>simp[intOf]
    ·obtain rfl:j=4:=by omega
     go_wp2;go_ret;refine⟨?_, ?_⟩
     ·exact Mo _ _ HK.out
     ·exact Below.s7 ((ar _ _).alloc (af _) _) n
end aP
end Go.Proofs.YtffamlbkmjmipaaGreatDoor
namespace Go.Proofs
open Go.Shelf
def Tryz.lays169_ren:Go.Shelf.Ren:=⟨fun|169=>130|n=>n,fun|70=>189|9=>9|0=>0|72=>191|37=>35|127=>230|3=>3|5=>5|n=>n,fun|n=>n⟩
theorem Tryz.lays169:Go.Proofs.Lays.n169 Tryz.prog Tryz.lays169_ren:={mixed:=by kernel_rfl,f169:=Tryz.func130.trans (congrArg some (by kernel_rfl)),t0:=Tryz.underlying0,a0:=Tryz.isAgg0,z0:=Tryz.sizeOf0,v0:=Tryz.zeroValue0,t3:=Tryz.underlying3,a3:=Tryz.isAgg3,z3:=Tryz.sizeOf3,v3:=Tryz.zeroValue3,t9:=Tryz.underlying9,a9:=Tryz.isAgg9,z9:=Tryz.sizeOf9,v9:=Tryz.zeroValue9,t37:=Tryz.underlying35,a37:=Tryz.isAgg35,z37:=Tryz.sizeOf35,v37:=Tryz.zeroValue35,t70:=Tryz.underlying189,a70:=Tryz.isAgg189,z70:=Tryz.sizeOf189,v70:=Tryz.zeroValue189,t72:=Tryz.underlying191,a72:=Tryz.isAgg191,z72:=Tryz.sizeOf191,v72:=Tryz.zeroValue191,t127:=Tryz.underlying230,a127:=Tryz.isAgg230,z127:=Tryz.sizeOf230,v127:=Tryz.zeroValue230}
theorem Tryz.Builder_Extra_169:Builder.Extra Tryz.prog Tryz.lays169_ren:={sizeBuilder:=by kernel_rfl,liesBuilder:=by kernel_rfl,t5:=Tryz.underlying5,a5:=Tryz.isAgg5,z5:=Tryz.sizeOf5,v5:=Tryz.zeroValue5,infoByte:=by kernel_rfl,cellsByte:=by kernel_rfl,sizeByte:=by kernel_rfl,neB5:=by decide}
open Go.RowKit in
theorem Tryz.Builder_String_any_k(B b:Nat)(l:List UInt8)(w:World)(h:Lib.IsBuilderF 191 5 B b (Lib.byteCells l) w)(Zw:B<=w.heap.size):
  Calls Tryz.prog 130 #[.pointer (some ⟨b,0,none⟩)] w fun e w'=>e= .returned (.string ⟨l.toArray⟩)∧(Lib.IsBuilderF 191 5 B b (Lib.byteCells l) w'∧Below B w w'∧Lib.OthersKept 5 (some b) w w'):=Any.Builder_String_any_k Tryz.lays169 Tryz.Builder_Extra_169 B b l w h Zw
end Go.Proofs
namespace Go.Proofs.YtffamlbkmjmipaaGreatDoor
open _root_.Go.Proofs.Tryz
namespace L5
open Go.RowKit
set_option linter.unusedVariables false
theorem sizeBuilder:(prog.info? 191).map (·.size)=some 2:=by kernel_rfl
theorem liesBuilder:liesAt prog prog.depth 191 (2/prog.cellsOf 191) 0 191 1=true:=by kernel_rfl
theorem infoByte:(prog.info? 5).map (fun i=>(i.zero,i.size,i.bytes))=some (some (.int .u8 0),1,1):=by kernel_rfl
theorem sW(b:Nat)(w:World)(h0:w.cell? ⟨b,0,none⟩=some (.pointer (some ⟨b,0,none⟩))):Calls prog 168 #[.pointer (some ⟨b,0,none⟩)] w fun e w'=>e= .returned (.tuple #[])∧w'=w:=by obtain⟨j,hj,_⟩:=Option.map_eq_some_iff.1 sizeBuilder;go_enter func168,ntmps168;go_wp2;rw[Lib.run_neq_ptr_same w _ underlying189 hj];go_wp2;go_end0;exact⟨rfl,rfl⟩
theorem rI(b:Nat)(w:World)(h0:w.cell? ⟨b,0,none⟩=some (.pointer none))(lU:w.shape? b=some (191,2))(RP:w.frozen? ⟨b,0,none⟩=false):Calls prog 168 #[.pointer (some ⟨b,0,none⟩)] w fun e w'=>e= .returned (.tuple #[])∧w'=w.setCell ⟨b,0,none⟩ (.pointer (some ⟨b,0,none⟩)):=by obtain⟨j,hj,hjs⟩:=Option.map_eq_some_iff.1 sizeBuilder;go_enter func168,ntmps168;go_wp2;rw[Lib.run_to_unsafe w ⟨b,0,none⟩ underlying189 underlying263 hj (by rw[hjs];decide) lU (Nat.zero_lt_succ 1)];simp only[Result.andThen];rw[Oper.upon_value];go_wp2;rw[run_callFunc_extern func210 (by kernel_rfl) (by kernel_rfl) (by kernel_rfl) (e:=Extern.AbiNoEscape.same) (by kernel_rfl)];rw[Lib.run_noEscape];simp only[Result.andThen];rw[Oper.upon_value];go_wp2;rw[Lib.run_from_unsafe w ⟨b,0,none⟩ underlying263 underlying189 hj lU liesBuilder];simp only[Result.andThen];rw[Oper.upon_value];go_wp2;go_end0;exact⟨rfl,rfl⟩
theorem zn(B b:Nat)(bs:List Value)(w:World)(h:Lib.IsBuilderF 191 5 B b bs w):Calls prog 168 #[.pointer (some ⟨b,0,none⟩)] w fun e w'=>e= .returned (.tuple #[])∧(Lib.BuilderAtF 191 5 B b (.pointer (some ⟨b,0,none⟩)) bs w'∧Below B w w'∧Lib.OthersKept 5 (some b) w w'):=by
 rcases h with h|h
 ·refine(rI b w h.cell0 h.shape h.frozen0).mono ?_;rintro e w'⟨rfl,rfl⟩;exact⟨rfl,h.used _,(ar B w).setCell (p:=⟨b,0,none⟩) h.1 _,(Lib.OthersKept.refl _ _ w).setCell ⟨b,0,none⟩ rfl _⟩
 ·refine(sW b w h.cell0).mono ?_;rintro e w'⟨rfl,rfl⟩;exact⟨rfl,h,ar B _,Lib.OthersKept.refl _ _ _⟩
theorem dL(B b:Nat)(bs:List Value)(c:Int)(w:World)(h:Lib.IsBuilderF 191 5 B b bs w)(hlen:bs.length+1<=140737488355328)(Zw:B<=w.heap.size):Calls prog 129 #[.pointer (some ⟨b,0,none⟩), .int .u8 c] w fun e w'=>e= .returned .nilIface∧(Lib.BuilderAtF 191 5 B b (.pointer (some ⟨b,0,none⟩)) (bs++ [.int .u8 c]) w'∧Below B w w'∧Lib.OthersKept 5 (some b) w w'):=by
 obtain⟨i0,hi,nV,j0,kC⟩:=info_parts infoByte;go_enter func129,ntmps129;go_wp2_with (go_at_call 168;refine(zn B b bs _ h).mono ?_);rintro e w1⟨rfl,h1,bP,Qx⟩;obtain⟨hB,v,Qj,cQ,cz⟩:=h1;have c0:w1.cell? ⟨b,0,none⟩=some (.pointer (some ⟨b,0,none⟩)):=by rw[Lib.cell_of_heap Qj];rfl
 have c1:w1.cell? ⟨b,1,none⟩=some v:=by rw[Lib.cell_of_heap Qj];rfl
 go_wp2_with (at_builtin;refine wpList_append_ownF _ rfl _ _ 35 rfl B 5 i0 (.int .u8 0) 1 1 underlying35 hi nV j0 kC rfl (by decide) _ _ _ rfl (cQ.alloc _) ⟨w1.heap.size,0,none⟩ 1 1 [.int .u8 c] rfl rfl ?c1 ?c2 ?c3 ?c4 ?c5 ?_)
 case c1=>
  intro j u hj
  match j,hj with
  |0,hj=>simp at hj;subst hj;simp[Addr.add]
 case c2=>intro u hu;simp at hu;subst hu;rfl
 case c3=>unfold maxLen;omega
 case c4=>omega
 case c5=>have:=bP.size;simp;omega
 intro v' w2 Pl lh _;have aQ:b<w1.heap.size:=by
  rcases Nat.lt_or_ge b w1.heap.size with h'|h'
  ·exact h'
  ·simp[Array.getElem?_eq_none h']at Qj
 have cL:w2.heap[b]?=some (.cells #[.pointer (some ⟨b,0,none⟩),v] 191 (0,0)):=by rw[lh.block b (by simp;omega) (fun e=>cz e.symm),Lib.alloc_old w1 _ b aQ];exact Qj
 have d0:w2.cell? ⟨b,0,none⟩=some (.pointer (some ⟨b,0,none⟩)):=by rw[Lib.cell_of_heap cL];rfl
 have d1:w2.cell? ⟨b,1,none⟩=some v:=by rw[Lib.cell_of_heap cL];rfl
 have f1:w2.frozen? ⟨b,1,none⟩=false:=Lib.frozen_of_heap cL 1;obtain⟨g,cap,rfl⟩: ∃g cap,v'= .slice (some ⟨g,0,none⟩) (bs.length+1) cap:=by
  rcases Pl.2 with⟨_,h0⟩|⟨g,cap,cur,fz,hv,_⟩
  ·omega
  ·exact⟨g,cap,hv⟩
 go_wp2;go_ret;refine⟨rfl, ?_, ?_,((Qx.alloc _).grown lh (Lib.ownsRowF_kind (cQ.alloc _))).setCell ⟨b,1,none⟩ rfl _⟩
 ·exact Lib.BuilderAtF.put (T:=191) (e:=5) hB cL (bs':=bs++ [.int .u8 c]) (by simpa using Pl) (by decide)
 ·exact((bP.alloc (by have:=bP.size;omega) _).grown lh (by have:=bP.size;simp;omega) (fun k hk=>(cQ.lt k hk).1)).setCell (p:=⟨b,1,none⟩) hB _
end L5
namespace bA
open Go.RowKit
def cg(by':UInt8)(p:List (List UInt8)×List UInt8)(c:UInt8):List (List UInt8)×List UInt8:=if c=by' then(p.1++ [p.2], [])else(p.1,p.2++ [c])
def pY(by':UInt8)(l:List UInt8):List (List UInt8)×List UInt8:=l.foldl (cg by') ([], [])
def cD(by':UInt8)(l:List UInt8):List (List UInt8):=(pY by' l).1++ [(pY by' l).2]
theorem vM(by':UInt8)(l:List UInt8)(c:UInt8):pY by' (l++ [c])=cg by' (pY by' l) c:=by simp[pY,List.foldl_append]
theorem sX(by':UInt8)(l:List UInt8):(pY by' l).1.length<=l.length∧(pY by' l).2.length<=l.length∧ ∀x∈(pY by' l).1,x.length<=l.length:=by
 rw[<-List.reverse_reverse l];generalize l.reverse=r
 induction r with
 |nil=>simp[pY]
 |cons c r ih=>
  rw[List.reverse_cons,vM];unfold cg;obtain⟨h1,h2,h3⟩:=ih;split
  ·refine⟨by simp at*;omega,by simp,fun x hx=> ?_⟩;rw[List.mem_append]at hx;rcases hx with hx|hx
   ·have:=h3 x hx;simp at*;omega
   ·simp at hx;subst hx;simp at*;omega
  ·refine⟨by simp at*;omega,by simp at*;omega,fun x hx=> ?_⟩;have:=h3 x hx;simp at*;omega
def strs(l:List (List UInt8)):List Value:=l.map fun x=> .string ⟨x.toArray⟩
