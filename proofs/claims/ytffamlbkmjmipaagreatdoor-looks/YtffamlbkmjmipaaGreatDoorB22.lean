import Derived.Test.YtffamlbkmjmipaaGreatDoorB10
import Derived.Test.YtffamlbkmjmipaaGreatDoorB20
import Derived.Lib.AppendStr
set_option maxHeartbeats 8000000
set_option maxRecDepth 100000
namespace Go.Proofs.YtffamlbkmjmipaaGreatDoor
open _root_.Go.Proofs.Tryz
namespace bJ
open Go.RowKit
variable{w w1:World}
def aT:List (List UInt8)->Mg×Bool
 | []=>(⟨[],0,0, [], []⟩,false)
 | [k]=>(⟨k,0,0, [], []⟩,k==eF||k==eU||k==dp)
 | [k,a]=>if k=gi then(⟨k,(cF a).1,0, [], []⟩,(cF a).2)else(⟨k,0,0, [], []⟩,false)
 | [k,a,b]=>if k=kFail then(⟨k,(cF a).1,(cF b).1, [], []⟩,(cF a).2 &&(cF b).2)else(⟨k,0,0, [], []⟩,false)
 | [k,a,b,t]=>if k=cH then(⟨k,(cF a).1,(cF b).1, [],t⟩,(cF a).2 &&(cF b).2 &&m6 t)
   else if k=fC then(⟨k,(cF a).1,0,b,t⟩,(cF a).2 &&ux b &&m6 t)else(⟨k,0,0, [], []⟩,false)
 |k::_=>(⟨k,0,0, [], []⟩,false)
def dJ(l:List UInt8):Mg×Bool:=aT (bW 32 l)
theorem bL{base g cap n:Nat}{ws:List (List UInt8)}(h:w.ownsRow base 9 1 (.slice (some ⟨g,0,none⟩) n cap) n (strs ws)){k:Nat}(hk:k<ws.length)(hn:n=ws.length):w.cell? ⟨g,k,none⟩=some (.string ⟨(ws[k]'hk).toArray⟩):=by subst hn;rw[h.cellAt k (by omega),strs,List.getElem?_map,a7 hk];rfl
theorem cut_small{s:ByteArray}{c:UInt8}(hs:s.size<=4194304): ∀x∈bW c s.data.toList,x.length<=4194304:=by
 have h:=tK c s.data.toList;rw[show s.data.toList.length=s.size from by simp]at h;intro x hx;unfold bW at hx;rw[List.mem_append]at hx;rcases hx with hx|hx
 ·have:=h.2.2 x hx;omega
 ·simp at hx;subst hx;have:=h.2.1;omega
theorem BH(c:UInt8)(l:List UInt8):bW c l≠ []:=by unfold bW;simp
theorem rK{W:World}(hb:Below W.heap.size W w1):(∀b o,b<W.heap.size->w1.cell? ⟨b,o,none⟩=W.cell? ⟨b,o,none⟩)∧(∀b o,b<W.heap.size->w1.frozen? ⟨b,o,none⟩=W.frozen? ⟨b,o,none⟩):=
 ⟨fun b o h=>hb.cell (p:=⟨b,o,none⟩) h,fun b o h=>hb.frozen (p:=⟨b,o,none⟩) h⟩
theorem eh{l:List UInt8}{m:Mg}{b:Bool}(h:dJ l=(m,b)):Ending.returned (.tuple #[.agg m.cs, .bool b])= .returned (.tuple #[.agg (dJ l).1.cs, .bool (dJ l).2]):=by rw[h]
theorem fL(h:Below w.heap.size w w1)(v0 v1 v2 v3 v4:Value):Below w.heap.size w (((((w1.setCell ⟨w.heap.size,0,none⟩ v0).setCell ⟨w.heap.size,1,none⟩ v1).setCell ⟨w.heap.size,2,none⟩ v2).setCell ⟨w.heap.size,3,none⟩ v3).setCell ⟨w.heap.size,4,none⟩ v4):=
 ((((h.setCell (ae _) _).setCell (ae _) _).setCell (ae _) _).setCell (ae _) _).setCell (ae _) _
theorem dA(h:Below w.heap.size w w1)(hz:w.heap.size<=w1.heap.size)(v0 v1 v2 v3 v4:Value)(o:Obj):Below w.heap.size w ((((((w1.setCell ⟨w.heap.size,0,none⟩ v0).setCell ⟨w.heap.size,1,none⟩ v1).setCell ⟨w.heap.size,2,none⟩ v2).setCell ⟨w.heap.size,3,none⟩ v3).setCell ⟨w.heap.size,4,none⟩ v4).alloc o):=
 (fL h v0 v1 v2 v3 v4).alloc (by simpa[World.setCell]using hz) o
def dY(l:List UInt8)(w:World)(e:Ending)(w':World):Prop:=e= .returned (.tuple #[.agg (dJ l).1.cs, .bool (dJ l).2])∧Below w.heap.size w w'
end bJ
namespace Mc
open bJ
variable{l:List UInt8}
structure SN(x:Mg):Prop where
 kind:x.kind=fC∨x.kind=gi∨x.kind=eF∨x.kind=eU∨x.kind=cH∨x.kind=kFail∨x.kind=dp
 bd:Bd.bJ x
theorem Qj{i n:Nat}{c:Int}(h:dH l i=some (c,n)):n<=3:=by
 unfold dH at h;split at h
 ·cases h;omega
 ·split at h
  ·split at h
   ·cases h;omega
   ·cases h
  ·split at h
   ·split at h
    ·cases h;omega
    ·cases h
   ·cases h
theorem EK{la:Nat->Option (Int×Nat)}{len:Nat}(hla: ∀i c n,la i=some (c,n)->n<=3): ∀(f i:Nat) (xs:List Int),fD la len f i=some xs->len<=i+3*xs.length
 |0,i,xs,h=>by
  unfold fD at h;split at h
  ·cases h
  ·cases h;omega
 |f+1,i,xs,h=>by
  unfold fD at h;split at h
  ·split at h
   ·cases h
   ·rename_i c n hn;obtain⟨ys,hy,rfl⟩:=Option.map_eq_some_iff.1 h;have h1:=EK hla f (i+n) ys hy;have h2:=hla _ _ _ hn;simp;omega
  ·cases h;omega
theorem zA{p:Int->Bool}{most:Nat}(h:iG p most l=true):l.length<=3*most:=by
 unfold iG at h;split at h
 ·rename_i xs hx;have h1:=EK (fun i c n hn=>Qj (l:=l) hn) _ _ _ hx;simp at h;omega
 ·cases h
theorem Cx(l:List UInt8):0<=(cF l).1∧(cF l).1<=999999:=by
 unfold cF;split
 ·rename_i h;simp only[bZ,decide_eq_true_eq]at h;obtain⟨⟨⟨h1,h6⟩,_⟩,hd⟩:=h;have hb:=RL l hd;have h10:((10:Int) ^l.length)<=10 ^6:=by
   have:(10 ^l.length:Nat)<=10 ^6:=Nat.pow_le_pow_right (by omega) h6;exact_mod_cast this
  dsimp only;have:((10:Int) ^6)=1000000:=by decide
  omega
 ·exact⟨by decide,by decide⟩
theorem U0(h:(dJ l).2=true):SN (dJ l).1:=by
 unfold dJ at h⊢;generalize bW 32 l=ws at*;unfold aT at h⊢;split at h
 ·cases h
 ·rename_i k;simp only[Bool.or_eq_true,beq_iff_eq]at h;refine⟨?_,⟨Int.le_refl 0,(by decide:(0:Int)<=999999)⟩,by simp,by simp⟩;rcases h with(h|h)|h<;>simp[h]
 ·rename_i k a;split at h
  ·rename_i hk;rw[if_pos hk];exact⟨by simp[hk],Cx a,by simp,by simp⟩
  ·cases h
 ·rename_i k a b;split at h
  ·rename_i hk;rw[if_pos hk];exact⟨by simp[hk],Cx a,by simp,by simp⟩
  ·cases h
 ·rename_i k a b t;split at h
  ·rename_i hk;rw[if_pos hk];simp only[bZ]at h;exact⟨by simp[hk],Cx a,by simp,aw (zA h.2) (by omega)⟩
  ·split at h
   ·rename_i hk XQ;rw[if_neg hk,if_pos XQ];simp only[bZ]at h;exact⟨by simp[XQ],Cx a,aw (zA h.1.2) (by omega),aw (zA h.2) (by omega)⟩
   ·cases h
 ·cases h
def jz(l:Bs):Bool:=fF l &&(dJ (dm l)).2
def lR(l:Bs):Mg:=(dJ (dm l)).1
theorem Ct{l:Bs}(h:jz l=true):SN (lR l):=U0 (by unfold jz at h;simp at h;exact h.2)
end Mc
namespace Mc
open bJ
namespace St
variable{s:St}
def bad:Bs:= [98,97,100]
def line(s:St)(c:Int)(l:Bs):St:=if jz l then(s.message c (lR l)).serve else s.say c bad
def bG(s:St)(c:Int):Bs:=match s.aq.find? (·.n==c)with|some x=>x.rest|none=> []
def l5(rest:Bs):List Bs->List Bs
 | []=> []
 |x::r=>(rest++x)::r
def di(s:St)(c:Int)(r:Bs):St:={s with aq:=aK (fun x=>x.n==c) (fun x=>{x with rest:=r}) s.aq}
def jb(s:St)(c:Int)(b:Bs):List Bs:=l5 (s.bG c) (bW 10 b)
def lines(s:St)(c:Int)(ls:List Bs):St:=ls.foldl (fun s l=>s.line c l) s
def feed(s:St)(c:Int)(b:Bs):St:=(((s.conn c).lines c (s.jb c b).dropLast).conn c).di c (((s.jb c b).getLastD []).take 81)
def rs(s:St):List Bs:=s.aq.map (·.rest)
theorem Jz(c:Int)(t:Bs):(s.say c t).rs=s.rs:=rfl
theorem OL(c:Int):(s.fJ c).rs=s.rs:=by
 unfold fJ;split
 ·exact cr (fun x:Cn=>x.n==c) (fun x:Cn=>{x with gone:=true}) (·.rest) (fun _=>rfl) s.aq
 ·rfl
theorem qH(i:Nat):(s.aS i).rs=s.rs:=by
 unfold aS;split
 ·rw[OL];rfl
 ·rfl
theorem Gg: ∀(f:Nat) (s:St) (id:Int),(stops f s id).rs=s.rs
 |0,_,_=>rfl
 |f+1,s,id=>by
  unfold stops;split
  ·rfl
  ·split
   ·rfl
   ·rw[Gg f,qH,Jz]
theorem xI(id:Int):(s.shut id).rs=s.rs:=Gg _ s id
theorem zy(id:Int)(f:Bool):(s.a6 id f).rs=s.rs:=by unfold a6;split<;>rfl
theorem xS(id:Int)(c:Bool):(s.again id c).rs=s.rs:=by
 unfold again;split
 ·rfl
 ·split
  ·rfl
  ·split
   ·rw[xI,Jz]
   ·rw[zy];split<;>rfl
theorem TE(c:Int)(ws:List Int)(k:Nat):(s.give c ws k).rs=s.rs:=by
 unfold give;split
 ·rfl
 ·split
  ·rfl
  ·split<;>rfl
theorem Bp: ∀(f:Nat) (s:St),(cS f s).rs=s.rs
 |0,_=>rfl
 |f+1,s=>by
  unfold cS;split
  ·rfl
  ·split
   ·rfl
   ·rw[Bp f,TE]
theorem um:s.serve.rs=s.rs:=Bp _ _
theorem Nl(c:Int)(m:Mg):(s.bU c m).rs=s.rs:=by
 unfold bU;split
 ·rfl
 ·split
  ·rfl
  ·rw[zy];rfl
theorem tI(c:Int):(s.conn c).rs=s.rs∨(s.conn c).rs=s.rs++ [[]]:=by
 unfold conn;split
 ·exact .inl rfl
 ·right;unfold rs;rw[aH];rfl
theorem I7(c:Int)(m:Mg):(s.message c m).rs=s.rs∨(s.message c m).rs=s.rs++ [[]]:=by
 unfold message;split
 ·exact .inl (Nl c m)
 split
 ·split
  ·exact .inl rfl
  ·split
   ·exact .inl (by rw[xI];rfl)
   ·exact .inl rfl
 split
 ·split
  ·exact .inl rfl
  ·dsimp only;split
   ·exact tI c
   ·exact tI (s:=s) c
 split
 ·exact .inl rfl
 split
 ·split
  ·exact .inl rfl
  ·split
   ·exact .inl rfl
   ·exact .inl (by rw[xI,qH];rfl)
 split
 ·split
  ·exact .inl rfl
  ·exact .inl (by rw[xS,qH])
 split
 ·dsimp only;rw[OL];have e:(St.idle {s.conn c with aq:=aK (fun x=>x.n==c) (fun x=>{x with drains:=true}) (s.conn c).aq} c).rs=(s.conn c).rs:=cr (fun x:Cn=>x.n==c) (fun x:Cn=>{x with drains:=true}) (·.rest) (fun _=>rfl) (s.conn c).aq;rw[e];exact tI c
 ·exact .inl rfl
theorem EC: ∀(f:Nat) (s:St),(cV f s).rs=s.rs
 |0,_=>rfl
 |f+1,s=>by
  unfold cV;split
  ·rfl
  ·split
   ·rfl
   ·rw[EC f,xS,qH,Jz]
theorem L9(a:At):(s.bA a).rs=s.rs:=by
 unfold bA;split
 ·rfl
 ·split
  ·rw[zy];rfl
  ·rfl
theorem Km: ∀(l:List At) (s:St),(l.foldl bA s).rs=s.rs
 | [],_=>rfl
 |a::l,s=>by rw[List.foldl_cons,Km l,L9]
theorem Vi:s.tick.rs=s.rs:=by unfold tick;dsimp only;rw[um];unfold eE;rw[Km,EC];rfl
theorem sR: ∀(f:Nat) (s:St) (i:Nat) (id c:Int),(bH f s i id c).rs=s.rs
 |0,_,_,_,_=>rfl
 |f+1,s,i,id,c=>by
  unfold bH;split
  ·rfl
  ·split
   ·rw[sR f,qH]
   ·rw[sR f]
theorem tH: ∀(f:Nat) (s:St) (c:Int),(aQ f s c).rs=s.rs
 |0,_,_=>rfl
 |f+1,s,c=>by
  unfold aQ;split
  ·rfl
  ·rw[tH f,xI,sR]
theorem tF: ∀(f:Nat) (s:St) (c:Int),(aP f s c).rs=s.rs
 |0,_,_=>rfl
 |f+1,s,c=>by
  unfold aP;split
  ·rfl
  ·split
   ·rfl
   ·rw[tF f,xS,qH]
theorem OQ(c:Int): ∀r∈(s.close c).rs,r∈s.rs:=by unfold close;dsimp only;rw[um,tF,tH];intro r hr;obtain⟨x,hx,rfl⟩:=aA.1 hr;exact aA.2 ⟨x,(aR.1 hx).1,rfl⟩
end St
structure Good(n:Nat)(s:St):Prop where
 inv:Inv s
 bd:Bd (2*(n:Int)) s
 sz:s.sz<=12*n
 rs: ∀r∈s.rs,r.length<=81
namespace Good
variable{n n':Nat}{s:St}
theorem le(h:Good n s)(hn:n<=n'):Good n' s:=⟨h.inv,h.bd.up (by omega),by have:=h.sz;omega,h.rs⟩
theorem wait(h:Good n s):(s.wait.length:Int)<=2*(n:Int):=by have:=h.sz;unfold St.sz at this;omega
theorem told(h:Good n s):Good n s.told:=⟨St.RH h.inv,h.bd.told,by have:=h.sz;unfold St.sz at*;show 0+4*s.af.length+8*s.wait.length+s.reqs.length+s.aq.length+s.begun<=_;omega,h.rs⟩
theorem tick(h:Good n s):Good (n+1) s.tick:=⟨St.RB h.inv,(h.bd.tick h.inv).up (by omega),by have:=h.sz;have:=St.Vj (s:=s);omega,by rw[St.Vi];exact h.rs⟩
theorem close(h:Good n s)(c:Int):Good n (s.close c):=⟨St.Lu h.inv c,h.bd.close h.inv c,by have:=h.sz;have:=St.OS (s:=s) c;omega,fun r hr=>h.rs r (St.OQ c r hr)⟩
theorem serve(h:Good n s):Good n s.serve:=⟨St.q9 h.inv,h.bd.serve h.inv,by have:=h.sz;have:=St.uo (s:=s);omega,by rw[St.um];exact h.rs⟩
end Good
theorem CC{s s':St}(h: ∀r∈s.rs,r.length<=81)(e:s'.rs=s.rs∨s'.rs=s.rs++ [[]]): ∀r∈s'.rs,r.length<=81:=by
 intro r hr;rcases e with e|e
 ·rw[e]at hr;exact h r hr
 ·rw[e]at hr;rcases List.mem_append.1 hr with hr|hr
  ·exact h r hr
  ·simp at hr;subst hr;simp
structure Mid(n m:Nat)(s:St):Prop where
 inv:Inv s
 bd:Bd (2*((n:Int)+m)) s
 sz:s.sz<=12*n+10*m+1
 rs: ∀r∈s.rs,r.length<=81
theorem Good.conn{n:Nat}{s:St}(h:Good n s)(c:Int):Mid n 0 (s.conn c):=⟨St.lA h.inv c,(h.bd.conn c).up (by omega),by have:=h.sz;have:=St.xl (s:=s) c;omega,CC h.rs (St.tI c)⟩
theorem Mid.line{n m:Nat}{s:St}(h:Mid n m s)(c:Int)(l:Bs):Mid n (m+1) (s.line c l):=by
 have hw:(s.wait.length:Int)<=2*((n:Int)+m):=by have:=h.sz;unfold St.sz at this;omega
 have hs:=h.sz;unfold St.line;split
 ·rename_i hm;have hb:=h.bd.message h.inv c (Ct hm).bd hw;have hi:=St.kd h.inv c (lR l);refine⟨St.q9 hi,(hb.serve hi).up (by omega), ?_, ?_⟩
  ·have h1:=St.uo (s:=s.message c (lR l));have h2:=St.sM (s:=s) c (lR l);omega
  ·rw[St.um];exact CC h.rs (St.I7 c _)
 ·exact⟨St.bM h.inv _ _,(h.bd.say _ _).up (by omega),by rw[St.eZ];omega,h.rs⟩
theorem Mid.lines{n:Nat}(c:Int): ∀(ls:List Bs) {m:Nat} {s:St},Mid n m s->Mid n (m+ls.length) (s.lines c ls)
 | [],_,_,h=>h
 |l::ls,m,s,h=>by have:=Mid.lines c ls (h.line c l);rw[List.length_cons,Nat.add_comm ls.length 1,<-Nat.add_assoc];exact this
theorem EY{s:St}{c:Int}{r:Bs}{x:Bs}(h:x∈(s.di c r).rs):x∈s.rs∨x=r:=by
 obtain⟨y,hy,rfl⟩:=aA.1 h;rcases cR hy with hy|⟨z,_,_,rfl⟩
 ·exact .inl (aA.2 ⟨y,hy,rfl⟩)
 ·exact .inr rfl
theorem Mid.fin{n m k:Nat}{s:St}(h:Mid n m s)(c:Int)(r:Bs)(hk:1<=k)(hm:m<=k)(hr:r.length<=81):Good (n+k) ((s.conn c).di c r):=by
 have h1:=St.lA h.inv c;have h2:Inv ((s.conn c).di c r):=St.k5 h1 (fun x=>{x with rest:=r}) (fun _=>rfl) (fun x=>x.n==c);refine⟨h2,((h.bd.conn c).aq _).up (by omega), ?_,fun x hx=> ?_⟩
 ·have e:((s.conn c).di c r).sz=(s.conn c).sz:=by unfold St.di St.sz;dsimp only;rw[dh]
  have h3:=St.xl (s:=s) c;have h4:=h.sz;omega
 ·rcases EY hx with hx|rfl
  ·exact CC h.rs (St.tI c) x hx
  ·exact hr
theorem CQ(rest:Bs)(ws:List Bs):(St.l5 rest ws).length=ws.length:=by cases ws<;>rfl
theorem Good.feed{n k:Nat}{s:St}(h:Good n s)(c:Int)(b:Bs)(hk:1<=k)(hl:(bW 10 b).length<=k+1):Good (n+k) (s.feed c b):=by unfold St.feed;refine Mid.fin ((h.conn c).lines c (s.jb c b).dropLast) c _ hk ?_ (by rw[List.length_take];omega);rw[List.length_dropLast];unfold St.jb;rw[CQ];omega
end Mc
namespace fA
open Go.RowKit bJ Go.Lib
variable{P:Program}
def pO(l:List UInt8):List Value:=l.map fun b=> .int .u8 (b.toNat:Int)
theorem zT(a b:List UInt8):pO (a++b)=pO a++pO b:=by simp[pO]
theorem qw(w:World)(base:Nat)(t u ty e:TypeId)(i:TypeInfo)(ht:P.underlying t=some (.slice e))(hu:P.underlying u=some .string)(hi:P.info? e=some i)(hz:i.zero=some (.int .u8 0))(mG:i.size=1)(rE:i.bytes=1)(v:Value)(n:Nat)(xs:List Value)(a8:w.ownsRow base e 1 v n xs)(s:ByteArray)(Ko:n+s.size<=maxLen)(kr:n+s.size<=140737488355328)(Pv:base<=w.heap.size): ∃v' w',(Builtin.append_ #[t,u] ty #[v, .string s]).run P w= .ok v' w'∧w'.ownsRow base e 1 v' (n+s.size) (xs++strCells s)∧w.grownBy w' v.ownBlock∧(v'.ownBlock=v.ownBlock∨v'.ownBlock=some w.heap.size):=by
 obtain⟨v',w',hr,ho,hg,_⟩:=run_append_own_string (P:=P) w base t u ty e i ht hu hi hz mG rE v n xs a8 s Ko kr Pv;refine⟨v',w',hr,ho,hg, ?_⟩;have IC:xs.length=n:=by simpa using a8.1
 rcases a8.2 with⟨rfl,rfl⟩|⟨g,cap,cur,rfl,hbg,hgh,hnc,Aa,hcs,Wc⟩
 ·by_cases hm:s.size=0
  ·have xB:(Builtin.append_ #[t,u] ty #[.slice none 0 0, .string s]).run P w= .ok (.slice none 0 0) w:=by
    have hf:=run_firstCells_string (P:=P) w 1 s;rw[hm]at hf;simp[Builtin.append_,run_underlying ht,run_underlying hu,sizeOf,typeInfo,hi,mG,Builtin.lenOf,hm,hf]
   rw[xB]at hr;cases hr;exact Or.inl rfl
  ·have jn:s.size<=9223372036854775807:=by simp only[maxLen]at Ko;omega
   have xB:=run_append_nil_string (P:=P) w t u ty e i (.int .u8 0) ht hu hi hz s (by omega) (by omega) (by rw[rE];omega);rw[xB]at hr;cases hr;exact Or.inr rfl
 ·by_cases vV:n+s.size<=cap
  ·have L3:cur.size=cap:=by simpa using hcs
   have xB:=run_append_room_string (P:=P) w t u ty e i ht hu hi mG g n cap cur hgh s vV (by omega);rw[xB]at hr;cases hr;exact Or.inl rfl
  ·have holds: ∀j u,xs[j]?=some u->w.cell? ((⟨g,0,none⟩:Addr).add j)=some u:=a8.cells (g:=g) rfl;have jn:n+s.size<=9223372036854775807:=by simp only[maxLen]at Ko;omega
   have xB:=run_append_grow_string (P:=P) w t u ty e i (.int .u8 0) ht hu hi hz ⟨g,0,none⟩ n cap xs (by rw[mG];simpa using IC) holds s (by omega) (by omega) (by rw[rE];exact growslice_fits (by omega) (by omega));rw[xB]at hr;cases hr;exact Or.inr rfl
theorem sX{ops:Array Oper}{o:Oper}{a:Act}{w:World}{K:Act->World->Prop}{Q:Exit->Act->World->Prop}{E:Prop}(XG:o.guard=none)(sl x:Operand)(t u:TypeId)(ho:o.op= .call {callee:= .builtin .append,args:= #[sl,x],argTypes:= #[t,u]})(base:Nat)(e:TypeId)(i:TypeInfo)(ht:P.underlying t=some (.slice e))(hu:P.underlying u=some .string)(hi:P.info? e=some i)(hz:i.zero=some (.int .u8 0))(mG:i.size=1)(rE:i.bytes=1)(v:Value)(n:Nat)(xs:List Value)(hs:a.eval sl=v)(a8:w.ownsRow base e 1 v n xs)(s:ByteArray)(hx:a.eval x= .string s)(Ko:n+s.size<=maxLen)(kr:n+s.size<=140737488355328)(Pv:base<=w.heap.size)(h: ∀v' w',w'.ownsRow base e 1 v' (n+s.size) (xs++strCells s)->w.grownBy w' v.ownBlock->(v'.ownBlock=v.ownBlock∨v'.ownBlock=some w.heap.size)->K (a.put o.dst v') w'):if Region.wanted o (yielded ops a.tmps)=true then Oper.wp P o a w K Q else E:=by
 have hw:Region.wanted o (yielded ops a.tmps)=true:=by simp[Region.wanted,XG]
 rw[if_pos hw];obtain⟨v',w',hr,h2,h3,h4⟩:=qw (P:=P) w base t u o.type e i ht hu hi hz mG rE v n xs a8 s Ko kr Pv;unfold Oper.wp execOp;simp only[ho,resolve,invoke,builtin,Sem.run_bind,Sem.run_pure,Result.andThen_ok,List.map_toArray,List.map_cons,List.map_nil,hs,hx,hr];exact h v' w' h2 h3 h4
theorem infoByte:(prog.info? 5).map (fun i=>(i.zero,i.size,i.bytes))=some (some (.int .u8 0),1,1):=by kernel_rfl
end fA
namespace Mr
open Go.RowKit aM Mc
attribute [local go_sem] aL.ag aL.ar
variable{s:St}{c:Int}{p:Nat}{m:MV}{g:List (Ln×Value)}{w:World}{F:Ft}
theorem RG(p:Nat)(s:St)(w:World)(F:Ft)(hm:(aU p s).holds w F):Calls prog 100 #[.pointer (some ⟨p,0,none⟩)] w fun e w'=> ∃v,e= .returned v∧Goes (aa (iB v s.out) (aU p s.told)) w F w':=by
 obtain⟨m,g,hr,az⟩:=bD hm;have dU:=bR hr az;have c11:w.cell? ⟨p,11,none⟩=some m.ov:=dU.cell 11;have f11:w.frozen? ⟨p,11,none⟩=false:=dU.frozen 11;obtain⟨G,hG⟩:=dU.ou;obtain⟨ao,cap,hv,_,_⟩:=bO hG;rw[hv]at c11;have HX:Hid (Goes (aa (iB (.slice ao s.out.length cap) s.out) (aU p s.told)) w F (w.setCell ⟨p,11,none⟩ (.slice none 0 0))):=by
  have h1:=(Goes.refl az).fresh (B:=iB (.slice none 0 0) []) (Goes.refl (dS _ _ _ (fun _ h=>h)));rw[KX]at h1;have h2:=(h1.eq (show _=aa (iM p s m) (aa (iB (.slice none 0 0) []) (aa (iB m.ov s.out) (aa (dO m.rv s.reqs) (aa (mz m.av s.af) (aa (rX m.gv g) (aa (inA m.wv s.wait) (lz m.cv s.aq)))))))by ac_rfl)).store 11 (.slice none 0 0);have h3:Goes (aa (aI p s.told {m with ov:= .slice none 0 0} g) (iB m.ov s.out)) w F (w.setCell ⟨p,11,none⟩ (.slice none 0 0)):=h2.eq (by
   rw[KX];show aa (blk p (.cells (y9 s.told {m with ov:= .slice none 0 0}) 162 (0,0))) _=aa (aa (iB (.slice none 0 0) []) (aa (blk p (.cells (y9 s.told {m with ov:= .slice none 0 0}) 162 (0,0))) _)) _
   ac_rfl)
  rw[<-hv];refine(h3.eq (cA _ _)).mono fun F' ⟨X,Y,hx,hy,d,e⟩=>⟨X,Y,hx, ?_,d,e⟩;exact⟨{m with ov:= .slice none 0 0},g,(nB _ _ _ _).2 ⟨hr,hy⟩⟩
 clear hm az hr dU hG hv;go_enter func100,ntmps100;go_wp2;go_ret;exact⟨_,rfl,HX.out⟩
def xJ(p:Nat)(s:St)(c:Int)(m:MV)(g:List (Ln×Value))(w:World)(F:Ft)(e:Ending)(w':World):Prop:=
 ∃g1 off cap k,∃hk:k<(s.conn c).aq.length,e= .returned (.pointer (some ⟨g1,off+k*4,none⟩))∧((s.conn c).aq[k]'hk).n=c∧k<=(s.conn c).aq.findIdx (·.n==c)∧
  Goes (aI p (s.conn c) {m with cv:= .slice (some ⟨g1,off,none⟩) (s.conn c).aq.length cap} g) w F w'
theorem OV{k:Nat}(hk:k<s.aq.length)(hq:((s.aq[k]'hk).n==c)=true):s.conn c=s:=by unfold St.conn;rw[if_pos (tA hk hq)]
theorem OU(h:s.aq.length<=s.aq.findIdx (fun x=>x.n==c)):s.conn c={s with aq:=s.aq++ [⟨c, [],false,false⟩]}:=by unfold St.conn;rw[qD h];rfl
theorem Tc{w1 w2:World}{G:Ft}{v:Value}{x:Cn}(az:(aI p s m g).holds w F)(hb:Below w.heap.size w w1)(hG:(lz m.cv s.aq).holds w1 G)(bK:Goes (lz v (s.aq++ [x])) w1 G w2):Goes (aI p {s with aq:=s.aq++ [x]} {m with cv:=v} g) w F (w2.setCell ⟨p,10,none⟩ v):=by have h0:Goes (aI p s m g) w F w1:=(Goes.refl az).below hb;rw[kV]at h0;have h1:=h0.part (cZ _ _ _ _ _) hG bK;have h2:=(h1.eq (bq _ _ _)).store 10 v;refine h2.eq ?_;rw[kV,bq];rfl
theorem W9(az:(aI p s m g).holds w F): ∃G,(lz m.cv s.aq).holds w G∧ ¬G p:=by rw[kV]at az;obtain⟨X,Y,hx,⟨B,_,hb,_,_,ey⟩,d,_⟩:=az;exact⟨X,hx,fun h=>d p h ((ey p).2 (.inl ((hb.2 p).2 rfl)))⟩
theorem ny(p:Nat)(c:Int)(s:St)(m:MV)(g:List (Ln×Value))(w:World)(F:Ft)(hr:g.map (·.1)=s.ring)(az:(aI p s m g).holds w F)(hlen:s.aq.length<=16777216):Calls prog 98 #[.pointer (some ⟨p,0,none⟩), .int .i64 c] w (xJ p s c m g w F):=by
 obtain⟨i0,hi,gI,dN,fS⟩:=info_parts P1;have dU:=bR hr az;obtain⟨ao,cap,G0,Ic,c10,_,fT⟩:=Hs dU;obtain⟨G,hG,GK⟩:=W9 az;rw[Ic]at hG;have f10:w.frozen? ⟨p,10,none⟩=false:=dU.frozen 10;have dc:=dU.lt;have HG:=hide hG;have HGP:=hide GK;have ZA:=hide Ic;have HO:=hide az;clear az hr dU hG GK Ic;go_enter func98,ntmps98;go_wp2
 go_loop [11] (fun i=> ∃k:Nat,k<=s.aq.length∧i= .int .i64 k∧Hid (k<=s.aq.findIdx (fun x=>x.n==c))) (fun i=>s.aq.length-(intOf i).toNat)
 case atStart=>exact⟨0,aJ _,rfl,aJ _⟩
 case round=>
  obtain⟨k,hk,rfl,HI⟩:=hrel;by_cases ay:k<s.aq.length
  ·obtain⟨g1,off,rfl⟩:=fT.out (by omega);obtain⟨c0,c1,c2,c3⟩:=gL HG.out ay;cases hq:((s.aq[k]'ay).n==c)
   ·have ig:Hid (k+1<=s.aq.findIdx (fun x=>x.n==c)):=eI ay hq HI.out;clear HI;go_wp2
    go_round
    case rel=>exact⟨k+1,by omega,by go_num,ig⟩
    case measure=>simp[intOf];omega
   ·have HX:Hid (xJ p s c m g w F (.returned (.pointer (some ⟨g1,off+k*4,none⟩))) w):=by
     have e:=OV ay hq;refine⟨g1,off,cap,k,by rw[e];exact ay,rfl,by simp only[e];simpa using hq,by rw[e];exact HI.out, ?_⟩;rw[e,<-ZA.out];exact Goes.refl HO.out
    clear HI;go_wp2;go_ret;exact HX.out
  ·have hce:=OU (by have:=HI.out;omega:s.aq.length<=s.aq.findIdx (fun x=>x.n==c));have HCE:=hide hce;obtain rfl:k=s.aq.length:=by omega
   clear hce;go_wp2_with (at_builtin;go_must(refine aC _ rfl _ _ 160 rfl 166 i0 (.agg #[.int .i64 0, .string ⟨#[]⟩, .bool false, .bool false]) 4 32 underlying160 hi gI dN fS rfl (by decide) (F:=G) _ s.aq.length (flat zX s.aq) rfl (au HG.out ((ah _ _).alloc (ae _) _)) ⟨w.heap.size,0,none⟩ 1 1 [.int .i64 c, .string ⟨#[]⟩, .bool false, .bool false] rfl rfl (World.news_of_block (cs:= #[.int .i64 c, .string ⟨#[]⟩, .bool false, .bool false]) (t:=166) (fr:=(0,0)) (heap_alloc_new w _)) (by simp[Value.oneCell']) (by unfold maxLen;omega) (by omega) ?main))
   case main=>
    intro dP eQ w1 bK;have CZ:p<(w.alloc (.cells #[.int .i64 c, .string ⟨#[]⟩, .bool false, .bool false] 166)).heap.size:=by simp;omega
    have k10:w1.cell? ⟨p,10,none⟩=some (.slice ao s.aq.length cap):=(bK.only.cell (p:=⟨p,10,none⟩) CZ HGP.out).trans ((((ah w.heap.size w).alloc (ae _) _).cell (p:=⟨p,10,none⟩) dc).trans c10);have kf:w1.frozen? ⟨p,10,none⟩=false:=(bK.only.frozen (p:=⟨p,10,none⟩) CZ HGP.out).trans ((((ah w.heap.size w).alloc (ae _) _).frozen (p:=⟨p,10,none⟩) dc).trans f10);obtain⟨F1,cd⟩:=bK.facts;obtain⟨_,_,he1,hcp,aaA⟩:=bO cd;cases he1;obtain⟨g1,off,rfl⟩:=aaA (by omega);have HX:Hid (∀n,xJ p s c m g w F (.returned (.pointer (some ⟨g1,off+s.aq.length*4,none⟩))) ((w1.setCell ⟨p,10,none⟩ (.slice (some ⟨g1,off,none⟩) (s.aq.length+1) eQ)).drewN n)):=fun n=>by
     have e:=HCE.out;have hl:(s.conn c).aq.length=s.aq.length+1:=by rw[e];simp
     refine⟨g1,off,eQ,s.aq.length,by omega,rfl,by simp only[e];simp, ?_, ?_⟩
     ·rw[e];show s.aq.length<=(s.aq++ [_]).findIdx _;rw[List.findIdx_append];split
      ·rename_i h;have:=HI.out;omega
      ·omega
     ·rw[hl];have h3:Goes (aI p {s with aq:=s.aq++ [⟨c, [],false,false⟩]} {m with cv:= .slice (some ⟨g1,off,none⟩) (s.aq.length+1) eQ} g) w F (w1.setCell ⟨p,10,none⟩ (.slice (some ⟨g1,off,none⟩) (s.aq.length+1) eQ)):=
       Tc (w1:=w.alloc (.cells #[.int .i64 c, .string ⟨#[]⟩, .bool false, .bool false] 166)) (G:=G) HO.out ((ah _ _).alloc (ae _) _) (by rw[ZA.out];exact au HG.out ((ah _ _).alloc (ae _) _)) (by unfold lz;rw[dL,aN];exact bK)
      rw[<-e]at h3;exact h3.drewN n
    have cn:(w1.setCell ⟨p,10,none⟩ (.slice (some ⟨g1,off,none⟩) (s.aq.length+1) eQ)).cell? ⟨p,10,none⟩=some (.slice (some ⟨g1,off,none⟩) (s.aq.length+1) eQ):=World.cell?_setCell_same _ _ _ k10;clear bK cd aaA HCE HI;go_wp2
    go_quiet (fail)
    go_wp2;go_ret;exact HX.out _
end Mr
namespace bJ
open Go.RowKit
theorem pE{p:Prop}(h:p):Hid p:=h
theorem ko{w w1:World}(hb1:Below (w.alloc (.cells #[.string ⟨#[]⟩, .int .i64 0, .int .i64 0, .string ⟨#[]⟩, .string ⟨#[]⟩] 113)).heap.size (w.alloc (.cells #[.string ⟨#[]⟩, .int .i64 0, .int .i64 0, .string ⟨#[]⟩, .string ⟨#[]⟩] 113)) w1):w1.cell? ⟨w.heap.size,0,none⟩=some (.string ⟨#[]⟩)∧w1.cell? ⟨w.heap.size,1,none⟩=some (.int .i64 0)∧w1.cell? ⟨w.heap.size,2,none⟩=some (.int .i64 0)∧w1.cell? ⟨w.heap.size,3,none⟩=some (.string ⟨#[]⟩)∧w1.cell? ⟨w.heap.size,4,none⟩=some (.string ⟨#[]⟩)∧w1.frozen? ⟨w.heap.size,0,none⟩=false∧w1.frozen? ⟨w.heap.size,1,none⟩=false∧w1.frozen? ⟨w.heap.size,2,none⟩=false∧w1.frozen? ⟨w.heap.size,3,none⟩=false∧w1.frozen? ⟨w.heap.size,4,none⟩=false:=by
 have h: ∀j,w1.cell? ⟨w.heap.size,j,none⟩=(#[.string ⟨#[]⟩, .int .i64 0, .int .i64 0, .string ⟨#[]⟩, .string ⟨#[]⟩]:Array Value)[j]?:=fun j=>by rw[hb1.cell (p:=⟨w.heap.size,j,none⟩) (by simp),World.cell?_alloc_at _ _ _ _ rfl]
 have f: ∀j,w1.frozen? ⟨w.heap.size,j,none⟩=false:=fun j=>by rw[hb1.frozen (p:=⟨w.heap.size,j,none⟩) (by simp),World.frozen?_alloc_at _ _ _ _ rfl]
 exact⟨h 0,h 1,h 2,h 3,h 4,f 0,f 1,f 2,f 3,f 4⟩
theorem lB{s:ByteArray}{l:List (List UInt8)}(hs:s.size<=4194304)(hw:bW 32 s.data.toList=l)(n:Nat)(hn:l.length=n)(w:World):Calls prog 93 #[.string s, .int .u8 32] w fun e w'=> ∃g cap,e= .returned (.slice (some ⟨g,0,none⟩) n cap)∧w.heap.size<=g∧w'.ownsRow w.heap.size 9 1 (.slice (some ⟨g,0,none⟩) n cap) n (strs l)∧Below w.heap.size w w':=by have h:=BG s 32 w hs;subst hn;rw[hw]at h;exact h
theorem vx{a:List UInt8}{n:Int}{b:Bool}(h:cF a=(n,b))(la:a.length<=4194304)(w:World):Calls prog 94 #[.string ⟨a.toArray⟩] w fun e w'=>e= .returned (.tuple #[.int .i64 n, .bool b])∧w'=w:=by have h':=Jb ⟨a.toArray⟩ w la;have e:(⟨a.toArray⟩:ByteArray).data.toList=a:=rfl;rw[e,h]at h';exact h'
