import Derived.Below
import Derived.OrdersHeld
import Derived.ProofKit
import Derived.WalkKit
import Derived.RowKit3
import Derived.Laws.OwnMore
import Derived.Deep.Draws
import Derived.Maps.OwnSet
import Derived.Deep.AppendLies
import Derived.Sort.Row
import Derived.Test.YtffamlbkmjmipaaGreatDoorProg
import Derived.WalkSpells
import Derived.RegionTactic
import Derived.ChangeAlike
import Derived.Deep.QuietTactic
import Derived.BigQuiet
import Derived.BigRegion
import Derived.OpenShut
set_option maxHeartbeats 8000000
set_option maxRecDepth 100000
namespace Go.Proofs.YtffamlbkmjmipaaGreatDoor
section
open Go.RowKit
variable{i n m k:Nat}
theorem af(n:Nat):n<=n:=Nat.le_refl n
theorem au(B:Nat)(w:World):Below B w w:=Below.refl B w
theorem az{α β:Type}{b:β}{f:α->β}{l:List α}:b∈l.map f↔ ∃a,a∈l∧f a=b:=List.mem_map
theorem aY{α:Type}{l:List α}(h:i<l.length):l[i]?=some l[i]:=List.getElem?_eq_getElem h
theorem cC{α:Type}{b:α}{xs:Array α}:xs[i]?=some b↔ ∃h,xs[i]'h=b:=Array.getElem?_eq_some_iff
theorem ar(h:n<=m)(h':m<=k):n<=k:=Nat.le_trans h h'
theorem aH{α:Type}{ys bs:List α}:(ys++bs).length=ys.length+bs.length:=List.length_append
theorem aD{α β:Type}{f:α->β}{l m:List α}:(l++m).map f=l.map f++m.map f:=List.map_append
theorem bh(n:Nat):0<=n:=Nat.zero_le n
theorem bm(a b:Bool):((a &&b)=true)=(a=true∧b=true):=Bool.and_eq_true a b
theorem aB{α β γ:Type}{g:β->γ}{f:α->β}{l:List α}:(l.map f).map g=l.map (g∘f):=List.map_map
theorem aL{α:Type}{p:α->Bool}{ys:List α}{x:α}:x∈ys.filter p↔x∈ys∧p x=true:=List.mem_filter
theorem cz{α:Type}{a:α}{l:List α}:l[i]?=some a↔ ∃h,l[i]'h=a:=List.getElem?_eq_some_iff
theorem iG{α:Type}{l:List α}(h:i<l.length):l.take (i+1)=l.take i++ [l[i]]:=List.take_succ_eq_append_getElem h
theorem cI{α:Type}{p:α->Bool}{a:α}{l:List α}(h:l.find? p=some a):a∈l:=List.mem_of_find?_eq_some h
theorem bS{α:Type}{l:List α}(h:n<l.length):l[n]∈l:=List.getElem_mem h
theorem bD(h:n<m)(h':m<=k):n<k:=Nat.lt_of_lt_of_le h h'
theorem cJ{α:Type}{l:List α}{a:α}(h:l[i]?=some a):a∈l:=List.mem_of_getElem? h
theorem aV{α:Type}(y:α){a:α}{l:List α}(h:a∈l):a∈y::l:=List.mem_cons_of_mem y h
theorem aF{α β:Type}{ys:List α}(f:α->β):(ys.map f).length=ys.length:=List.length_map f
theorem bz{α β:Type}{l:List α}{f g:α->β}(h: ∀a,a∈l->f a=g a):l.map f=l.map g:=List.map_congr_left h
theorem b9{α:Type}{a b:α}:a∈ [b]↔a=b:=List.mem_singleton
theorem bY{α:Type}{a:α}{l:List α}:a∈a::l:=List.mem_cons_self
end
section
variable{P:Program}{ops:Array Oper}{Q:Exit->Act->World->Prop}{md:Region.Mode}{S:World->Prop}
theorem UY{i:Nat}{oi:Oper}{v:Value}{fuel:Nat}{listed:Array Bool}{a:Act}{w:World}(hi:ops[i]?=some oi)(hy:YieldsIf P ops S oi v a)(hS:S w)(h:wpAnyH P md ops Q S fuel (listed.setIfInBounds i true) (a.put oi.dst v) w)(hs:Region.noSelect ops=true:=by kernel_rfl)(hf:Region.free md ops listed i=true:=by kernel_rfl)(hr:(Region.ready md ops listed).contains i=true:=by kernel_rfl)(hQ: ∀c a w,Q (.panic c) (a.put oi.dst v) w->Q (.panic c) a w:=by exact fun _ _ _ h=>h):wpAnyH P md ops Q S (fuel+1) listed a w:=
 wpAnyH_take hi hs hf hr hQ hy hS h
theorem tkZ{i:Nat}{oi:Oper}{v:Value}{fuel:Nat}{listed:Array Bool}{a:Act}{w:World}(hi:ops[i]?=some oi)(hS:S w)(h:wpAnyH P md ops Q S fuel (listed.setIfInBounds i true) (a.put oi.dst v) w)(hw:Region.wanted oi (yielded ops a.tmps)=true:=by rfl)(hy: ∀w,S w->(execOp a.eval oi).run P w= .ok (.value v) w:=by intro wz hz;go_simp<;>with_reducible rfl)(hs:Region.noSelect ops=true:=by kernel_rfl)(hf:Region.free md ops listed i=true:=by kernel_rfl)(hr:(Region.ready md ops listed).contains i=true:=by kernel_rfl)(hQ: ∀c a w,Q (.panic c) (a.put oi.dst v) w->Q (.panic c) a w:=by exact fun _ _ _ h=>h):wpAnyH P md ops Q S (fuel+1) listed a w:=
 wpAnyH_take hi hs hf hr hQ (Or.inl ⟨hw,hy⟩) hS h
theorem sT{α:Type}(l:List α)(i:Nat)(a:α):l.toArray.setIfInBounds i a=(l.set i a).toArray:=by simp
theorem s0{α:Type}(x:α)(l:List α)(a:α):(x::l).set 0 a=a::l:=rfl
theorem s1{α:Type}(x:α)(l:List α)(i:Nat)(a:α):(x::l).set (i+1) a=x::l.set i a:=rfl
end
section
open Go.RowKit
structure Only(S:Nat->Prop)(w w':World):Prop where
 os:w'.os=w.os
 tape:w'.tape=w.tape
 output:w'.output=w.output
 size:w.heap.size<=w'.heap.size
 block: ∀k,k<w.heap.size-> ¬S k->w'.heap[k]?=w.heap[k]?
namespace Only
variable{S S':Nat->Prop}{a b c w w':World}
theorem refl(S:Nat->Prop)(w:World):Only S w w:=⟨rfl,rfl,rfl,af _,fun _ _ _=>rfl⟩
theorem mono(h:Only S a b)(hS: ∀k,k<a.heap.size->S k->S' k):Only S' a b:=⟨h.os,h.tape,h.output,h.size,fun k hk hn=>h.block k hk (fun hs=>hn (hS k hk hs))⟩
theorem trans(h:Only S a b)(h':Only S' b c)(hS: ∀k,k<a.heap.size->S' k->S k):Only S a c:=
 ⟨h'.os.trans h.os,h'.tape.trans h.tape,h'.output.trans h.output,ar h.size h'.size,fun k hk hn=>(h'.block k (bD hk h.size) (fun hs=>hn (hS k hk hs))).trans (h.block k hk hn)⟩
theorem drew(h:Only S a w):Only S a w.drew:=⟨h.os,h.tape,h.output,h.size,h.block⟩
theorem drewN(h:Only S a w)(n:Nat):Only S a (w.drewN n):=⟨h.os,h.tape,h.output,h.size,h.block⟩
theorem alloc(h:Only S a w)(o:Obj):Only S a (w.alloc o):=
 h.trans (S':=fun _=>False) ⟨rfl,rfl,rfl,by simp,fun k hk _=>Below.heap_alloc _ _ _ hk⟩ (fun _ _ h=>h.elim)
theorem setCell(h:Only S a w)(p:Addr)(u:Value)(hp:p.block<a.heap.size->S p.block):Only S a (w.setCell p u):=
 h.trans (S':=fun k=>k=p.block) ⟨rfl,rfl,rfl,by simp[World.setCell],fun k _ hn=>Below.heap_setCell _ _ _ _ hn⟩ (fun k hk e=>by subst e;exact hp hk)
theorem grown(h:Only S a w){row:Option Nat}(hg:w.grownBy w' row)(hr: ∀k,k<a.heap.size->row=some k->S k):Only S a w':=
 h.trans (S':=fun k=>row=some k) ⟨hg.os,hg.tape,hg.output,hg.size,fun k hk hn=>hg.block k hk (fun e=>hn e.symm)⟩ (fun k hk e=>hr k hk e)
theorem below(h:Only S a w)(hb:Below w.heap.size w w'):Only S a w':=
 h.trans (S':=fun _=>False) ⟨hb.os,hb.tape,hb.output,hb.size,fun k hk _=>hb.block k hk⟩ (fun _ _ h=>h.elim)
theorem cell(h:Only S w w'){p:Addr}(hp:p.block<w.heap.size)(hn: ¬S p.block):w'.cell? p=w.cell? p:=World.cell?_of_block (h.block p.block hp hn)
theorem frozen(h:Only S w w'){p:Addr}(hp:p.block<w.heap.size)(hn: ¬S p.block):w'.frozen? p=w.frozen? p:=World.frozen?_of_block (h.block p.block hp hn)
theorem row(h:Only S w w'){base:Nat}{e:TypeId}{size:Nat}{v:Value}{n:Nat}{xs:List Value}(ho:w.ownsRow base e size v n xs)(hn: ∀k,v.ownBlock=some k-> ¬S k):w'.ownsRow base e size v n xs:=by
 refine⟨ho.1, ?_⟩;rcases ho.2 with h0|⟨g,cap,cur,rfl,hb,hg,hr⟩
 ·exact Or.inl h0
 ·refine Or.inr ⟨g,cap,cur,rfl,hb, ?_,hr⟩;have aN:g<w.heap.size:=(cC.1 hg).1;rw[h.block g aN (hn g rfl)];exact hg
theorem toBelow{B:Nat}(h:Only S w w')(hS: ∀k,S k->B<=k)(hB:B<=w.heap.size):Below B w w':=
 ⟨h.os,h.tape,h.output,h.size,fun k hk=>h.block k (by omega) (fun hs=>by have:=hS k hs;omega)⟩
end Only
end
section
open Go.RowKit
abbrev Ft:Type:=Nat->Prop
structure aJ where
 holds:World->Ft->Prop
 lt: ∀{w:World} {F:Ft},holds w F-> ∀k,F k->k<w.heap.size
 keep: ∀{w w':World} {F:Ft},holds w F->(∀k,F k->w'.heap[k]?=w.heap[k]?)->holds w' F
theorem aJ.ext'{A B:aJ}(h: ∀w F,A.holds w F↔B.holds w F):A=B:=by obtain⟨a,_,_⟩:=A;obtain⟨b,_,_⟩:=B;have:a=b:=funext fun w=>funext fun F=>propext (h w F);subst this;rfl
namespace aJ
theorem same{A:aJ}{w:World}{F F':Ft}(h:A.holds w F)(e: ∀k,F k↔F' k):A.holds w F':=by have:F=F':=funext fun k=>propext (e k);subst this;exact h
def emp:aJ where
 holds _ F:= ∀k,¬F k
 lt h k hk:=absurd hk (h k)
 keep h _:=h
def fact(φ:Prop):aJ where
 holds _ F:=φ∧ ∀k,¬F k
 lt h k hk:=absurd hk (h.2 k)
 keep h _:=h
def aa(A B:aJ):aJ where
 holds w F:= ∃G H:Ft,A.holds w G∧B.holds w H∧(∀k,G k-> ¬H k)∧ ∀k,F k↔G k∨H k
 lt h k hk:=by
  obtain⟨G,H,ha,hb,_,e⟩:=h;rcases(e k).1 hk with h|h
  ·exact A.lt ha k h
  ·exact B.lt hb k h
 keep h hk:=by obtain⟨G,H,ha,hb,d,e⟩:=h;exact⟨G,H,A.keep ha (fun k h=>hk k ((e k).2 (.inl h))),B.keep hb (fun k h=>hk k ((e k).2 (.inr h))),d,e⟩
def ex{α:Type}(A:α->aJ):aJ where
 holds w F:= ∃x,(A x).holds w F
 lt h:=by obtain⟨x,h⟩:=h;exact(A x).lt h
 keep h hk:=by obtain⟨x,h⟩:=h;exact⟨x,(A x).keep h hk⟩
def blk(p:Nat)(o:Obj):aJ where
 holds w F:=w.heap[p]?=some o∧ ∀k,F k↔k=p
 lt h k hk:=by obtain rfl:=(h.2 k).1 hk;exact(cC.1 h.1).1
 keep h hk:=⟨by rw[hk _ ((h.2 _).2 rfl)];exact h.1,h.2⟩
def all{α:Type}(A:α->aJ):List α->aJ
 | []=>emp
 |x::l=>aa (A x) (all A l)
theorem bq(A B:aJ):aa A B=aa B A:=ext' fun w F=>by constructor<;>rintro⟨G,H,ha,hb,d,e⟩<;>exact⟨H,G,hb,ha,fun k h h'=>d k h' h,fun k=>(e k).trans or_comm⟩
theorem bA(A B C:aJ):aa (aa A B) C=aa A (aa B C):=ext' fun w F=>by
 constructor
 ·rintro⟨G,H,⟨G1,G2,ha,hb,d1,e1⟩,hc,d,e⟩;refine⟨G1,fun k=>G2 k∨H k,ha,⟨G2,H,hb,hc,fun k h=>d k ((e1 k).2 (.inr h)),fun k=>Iff.rfl⟩,fun k h h'=> ?_,fun k=> ?_⟩
  ·rcases h' with h'|h'
   ·exact d1 k h h'
   ·exact d k ((e1 k).2 (.inl h)) h'
  ·rw[e k,e1 k,or_assoc]
 ·rintro⟨G,H,ha,⟨G1,G2,hb,hc,d1,e1⟩,d,e⟩;refine⟨fun k=>G k∨G1 k,G2,⟨G,G1,ha,hb,fun k h h'=>d k h ((e1 k).2 (.inl h')),fun k=>Iff.rfl⟩,hc,fun k h h'=> ?_,fun k=> ?_⟩
  ·rcases h with h|h
   ·exact d k h ((e1 k).2 (.inr h'))
   ·exact d1 k h h'
  ·rw[e k,e1 k,or_assoc]
instance:Std.Commutative aa:=⟨bq⟩
instance:Std.Associative aa:=⟨bA⟩
theorem se(A:aJ):aa A emp=A:=ext' fun w F=>by
 constructor
 ·rintro⟨G,H,ha,hb,d,e⟩;exact same ha (fun k=>by rw[e k];exact⟨.inl,fun h=>h.elim id (fun h=>absurd h (hb k))⟩)
 ·intro h;exact⟨F,fun _=>False,h,fun _ h=>h,fun _ _ h=>h,fun k=>⟨.inl,fun h=>h.elim id False.elim⟩⟩
theorem nx(A:aJ):aa emp A=A:=by rw[bq,se]
theorem cD(A B C:aJ):aa A (aa B C)=aa B (aa A C):=by rw[<-bA,bq A B,bA]
theorem all_append{α:Type}(A:α->aJ)(l l':List α):all A (l++l')=aa (all A l) (all A l'):=by
 induction l with
 |nil=>exact(nx _).symm
 |cons x l ih=>show aa (A x) (all A (l++l'))=aa (aa (A x) (all A l)) (all A l');rw[ih,bA]
theorem AO{α:Type}(A:α->aJ)(x:α):all A [x]=A x:=se _
theorem Ch{α:Type}(A:α->aJ){l l':List α}(h:l.Perm l'):all A l=all A l':=by
 induction h with
 |nil=>rfl
 |cons x _ ih=>show aa (A x) _=aa (A x) _;rw[ih]
 |swap x y l=>exact cD _ _ _
 |trans _ _ h1 h2=>exact h1.trans h2
theorem all_congr{α:Type}{A B:α->aJ}{l:List α}(h: ∀x∈l,A x=B x):all A l=all B l:=by
 induction l with
 |nil=>rfl
 |cons x l ih=>show aa (A x) _=aa (B x) _;rw[h x (bY ..),ih (fun y hy=>h y (aV _ hy))]
theorem bH{α:Type}(A:α->aJ)(B:aJ):aa (ex A) B=ex fun x=>aa (A x) B:=ext' fun w F=>by
 constructor
 ·rintro⟨G,H,⟨x,ha⟩,hb,d,e⟩;exact⟨x,G,H,ha,hb,d,e⟩
 ·rintro⟨x,G,H,ha,hb,d,e⟩;exact⟨G,H,⟨x,ha⟩,hb,d,e⟩
theorem CM(φ:Prop)(A:aJ)(w:World)(F:Ft):(aa (fact φ) A).holds w F↔φ∧A.holds w F:=by
 constructor
 ·rintro⟨G,H,⟨h,hn⟩,ha,d,e⟩;exact⟨h,same ha (fun k=>by rw[e k];exact⟨.inr,fun h=>h.elim (fun h=>absurd h (hn k)) id⟩)⟩
 ·rintro⟨h,ha⟩;exact⟨fun _=>False,F,⟨h,fun _ h=>h⟩,ha,fun _ h=>h.elim,fun k=>⟨.inr,fun h=>h.elim False.elim id⟩⟩
variable{A A' A'' B B':aJ}{w w' yP:World}{F:Ft}
theorem left(h:(aa A B).holds w F): ∃G,A.holds w G∧ ∀k,G k->F k:=by obtain⟨G,H,ha,hb,d,e⟩:=h;exact⟨G,ha,fun k hk=>(e k).2 (.inl hk)⟩
theorem cK{p:Nat}{o:Obj}(h:(aa (blk p o) B).holds w F):w.heap[p]?=some o∧F p:=by obtain⟨G,ha,e⟩:=left h;exact⟨ha.1,e p ((ha.2 p).2 rfl)⟩
theorem RX{p:Nat}{o:Obj}(h:(blk p o).holds w F):w.heap[p]?=some o∧F p:=⟨h.1,(h.2 p).2 rfl⟩
theorem MI{p q:Nat}{o o':Obj}(h:(aa (blk p o) (aa (blk q o') B)).holds w F):p≠q:=by rintro rfl;obtain⟨G,H,ha,hb,d,e⟩:=h;obtain⟨G',iI,e'⟩:=left hb;exact d p ((ha.2 p).2 rfl) (e' p ((iI.2 p).2 rfl))
end aJ
open aJ
def Goes(A:aJ)(w:World)(F:Ft)(w':World):Prop:= ∃F':Ft,A.holds w' F'∧Only F w w'∧ ∀k,F' k->F k∨w.heap.size<=k
namespace Goes
variable{A A' A'' B B':aJ}{w w' yP:World}{F:Ft}
theorem refl(h:A.holds w F):Goes A w F w:=⟨F,h,Only.refl _ _,fun _ h=> .inl h⟩
theorem trans(h:Goes A w F w')(h': ∀F',A.holds w' F'->Goes A' w' F' yP):Goes A' w F yP:=by
 obtain⟨F1,a1,o1,n1⟩:=h;obtain⟨F2,a2,o2,n2⟩:=h' F1 a1;refine⟨F2,a2,o1.trans o2 (fun k hk h=> ?_),fun k hk=> ?_⟩
 ·rcases n1 k h with h|h
  ·exact h
  ·omega
 ·rcases n2 k hk with h|h
  ·exact n1 k h
  ·have:=o1.size;exact .inr (by omega)
theorem mono(h:Goes A w F w')(h': ∀F',A.holds w' F'->A'.holds w' F'):Goes A' w F w':=by obtain⟨F1,a1,o1,n1⟩:=h;exact⟨F1,h' F1 a1,o1,n1⟩
theorem eq(h:Goes A w F w')(e:A=A'):Goes A' w F w':=e▸h
theorem size(h:Goes A w F w'):w.heap.size<=w'.heap.size:=by obtain⟨_,_,o,_⟩:=h;exact o.size
theorem frame(h:(aa A B).holds w F)(step: ∀G,A.holds w G->(∀k,G k->F k)->Goes A' w G w'):Goes (aa A' B) w F w':=by
 obtain⟨G,H,ha,hb,d,e⟩:=h;obtain⟨G',ha',o,n⟩:=step G ha (fun k hk=>(e k).2 (.inl hk));have aN:=B.lt hb;refine⟨fun k=>G' k∨H k,⟨G',H,ha',B.keep hb (fun k hk=>o.block k (aN k hk) (fun hg=>d k hg hk)),fun k hk hh=> ?_,fun k=>Iff.rfl⟩,o.mono (fun k _ hk=>(e k).2 (.inl hk)),fun k hk=> ?_⟩
 ·rcases n k hk with h|h
  ·exact d k h hh
  ·have:=aN k hh;omega
 ·rcases hk with hk|hk
  ·rcases n k hk with h|h
   ·exact .inl ((e k).2 (.inl h))
   ·exact .inr h
  ·exact .inl ((e k).2 (.inr hk))
theorem drop(h:Goes (aa A B) w F w'):Goes A w F w':=by obtain⟨F',⟨G,H,ha,hb,d,e⟩,o,n⟩:=h;exact⟨G,ha,o,fun k hk=>n k ((e k).2 (.inl hk))⟩
theorem drew(h:Goes A w F w'):Goes A w F w'.drew:=by obtain⟨F',ha,o,n⟩:=h;exact⟨F',A.keep ha (fun _ _=>rfl),o.drew,n⟩
theorem drewN(h:Goes A w F w')(n:Nat):Goes A w F (w'.drewN n):=by obtain⟨F',ha,o,m⟩:=h;exact⟨F',A.keep ha (fun _ _=>rfl),o.drewN n,m⟩
theorem below(h:Goes A w F w')(hb:Below w'.heap.size w' yP):Goes A w F yP:=by obtain⟨F',ha,o,n⟩:=h;exact⟨F',A.keep ha (fun k hk=>hb.block k (A.lt ha k hk)),o.below hb,n⟩
theorem alloc(h:Goes A w F w')(o:Obj):Goes (aa (blk w'.heap.size o) A) w F (w'.alloc o):=by
 obtain⟨F',ha,oo,n⟩:=h;have hz:=oo.size;refine⟨fun k=>k=w'.heap.size∨F' k,⟨fun k=>k=w'.heap.size,F',⟨heap_alloc_new _ _,fun k=>Iff.rfl⟩,A.keep ha (fun k hk=>Below.heap_alloc _ _ _ (A.lt ha k hk)),fun k hk hf=> ?_,fun k=>Iff.rfl⟩,oo.alloc o,fun k hk=> ?_⟩
 ·have:=A.lt ha k hf;omega
 ·rcases hk with hk|hk
  ·right;omega
  ·exact n k hk
theorem dA(h:Goes A w F w')(o:Obj):Goes A w F (w'.alloc o):=((h.alloc o).eq (bq _ _)).drop
theorem store{p:Nat}{cs:Array Value}{t:TypeId}(h:Goes (aa (blk p (.cells cs t (0,0))) A) w F w')(i:Nat)(v:Value):Goes (aa (blk p (.cells (cs.setIfInBounds i v) t (0,0))) A) w F (w'.setCell ⟨p,i,none⟩ v):=by refine h.trans fun F' h'=> ?_;refine frame h' fun G hg _=>⟨G,⟨?_,hg.2⟩,(Only.refl _ _).setCell _ _ (fun _=>(hg.2 p).2 rfl),fun _ h=> .inl h⟩;exact heap_setCell_same w' p i cs _ v hg.1
end Goes
end
namespace Pj
open Go.RowKit aJ Go.Maps
def asIs(v:Value):Option (DataW Value×List MemPlace):=some (.held v, [])
def pt(p:Nat):Value:= .pointer (some ⟨p,0,none⟩)
structure Kd(P:Program)(k:TypeId)(κ:Type) where
 keyed:Keyed P k
 lk:κ->Lit
 val:κ->Value
 ok:κ->Prop
 key: ∀c,ok c->keyOf P k (val c)=some (lk c)
 inj: ∀c d,lk c=lk d->c=d
 lit: ∀c,WideAt.IsKeyLit (lk c)
section
variable{P:Program}{k:TypeId}{κ:Type}
structure Yn(K:Kd P k κ)(D:DataW Value)(m:List (κ×Nat)):Prop where
 nd:(m.map (·.1)).Nodup
 sz:Maps.size D=m.length
 at': ∀x∈m,has D (K.lk x.1)=true∧ ∀z,D.atKey (K.lk x.1) z= .held (pt x.2)
 no: ∀kl,has D kl=true-> ∃x∈m,kl=K.lk x.1
def mapA(K:Kd P k κ)(b:Nat)(m:List (κ×Nat)):aJ where
 holds w F:=(∀x,F x↔x=b)∧ ∃D:DataW Value,w.ownsMap P k asIs b m.length D∧Yn K D m
 lt h x hx:=by obtain⟨hF,D,hD,_⟩:=h;obtain rfl:=(hF x).1 hx;exact hD.lt
 keep h hk:=by obtain⟨hF,D,⟨es,clock,h1,h2⟩,h3⟩:=h;exact⟨hF,D,⟨es,clock,(hk b ((hF b).2 rfl)).trans h1,h2⟩,h3⟩
theorem tight{R:Value->Option (DataW Value×List MemPlace)}{w:World}{b n:Nat}{D:DataW Value}(h:w.ownsMap P k R b n D):w.ownsMap P k R b (Maps.size D) D:=by obtain⟨es,clock,h1,h2,h3,rfl⟩:=h;exact⟨es,clock,h1,h2,by simp[Maps.size,length_sorted],rfl⟩
variable{K:Kd P k κ}{w:World}{F:Ft}{b:Nat}{m:List (κ×Nat)}
theorem uR{w w':World}{b:Nat}(h:w.mapTurned w' b):Only (fun k=>k=b) w w':=by have hg:=h.grown;exact⟨hg.os,hg.tape,hg.output,hg.size,fun k hk hn=>hg.block k hk (fun e=>hn (Option.some.inj e))⟩
theorem tL(K:Kd P k κ){A:aJ}{w0:World}(h:Goes A w0 F w):Goes (aa (mapA K w.heap.size []) A) w0 F (w.alloc (.map #[] 0)):=by refine(h.alloc (.map #[] 0)).mono fun F' h'=> ?_;obtain⟨G,H,ha,hb,d,e⟩:=h';refine⟨G,H,⟨ha.2, .map [], ?_,⟨by simp,rfl,fun x hx=>by simp at hx,fun kl h=>by simp[has]at h⟩⟩,hb,d,e⟩;exact World.ownsMap_made w P k asIs
theorem yr(h:(mapA K b m).holds w F){t e:TypeId}(ht:P.underlying t=some (.map k e))(hlen:m.length<maxLen)(c:κ)(hc:K.ok c)(p:Nat)(hn:c∉m.map (·.1)): ∃w',(Instr.mapUpdate t (.map (some b)) (K.val c) (pt p)).run P w= .ok () w'∧Goes (mapA K b (m++ [(c,p)])) w F w':=by
 obtain⟨hF,D,hD,hM⟩:=h;have Da:=hD.tidy K.keyed;obtain⟨w',zw,cY,NX⟩:=hD.store K.keyed ht hlen (K.key c hc) (val:=pt p) (d:= .held (pt p)) (ps:= []) rfl;have hnh:has D (K.lk c)=false:=by
  cases hh:has D (K.lk c)with
  |false=>rfl
  |true=>obtain⟨x,hx,ex⟩:=hM.no _ hh;exact absurd (az.2 ⟨x,hx,(K.inj _ _ ex).symm⟩) hn
 have dc:Maps.size (D.put (K.lk c) (.held (pt p)))=(m++ [(c,p)]).length:=by rw[size_put Da,hnh,hM.sz];simp
 refine⟨w',zw,F,⟨hF,_,dc▸tight cY, ?_,dc,fun x hx=> ?_,fun kl tE=> ?_⟩,(uR NX).mono (fun k _ e=>(hF k).2 e),fun _ h=> .inl h⟩
 ·rw[aD,List.nodup_append];refine⟨hM.nd,by simp,fun u hu v hv e=>hn ?_⟩;simp at hv;rw[<-hv,<-e];exact hu
 ·rcases List.mem_append.1 hx with hx|hx
  ·have cA:K.lk x.1≠K.lk c:=fun e=>hn (az.2 ⟨x,hx,K.inj _ _ e⟩);obtain⟨h1,h2⟩:=hM.at' x hx;exact⟨by rw[has_put_other cA];exact h1,fun z=>by rw[atKey_put_other cA];exact h2 z⟩
  ·obtain rfl:=b9.1 hx;exact⟨has_put_same Da.isMap (K.lit c) _,fun z=>atKey_put_same Da.isMap (K.lit c) _ z⟩
 ·by_cases e:kl=K.lk c
  ·exact⟨(c,p),by simp,e⟩
  ·rw[has_put_other e]at tE;obtain⟨x,hx,ex⟩:=hM.no kl tE;exact⟨x,List.mem_append_left _ hx,ex⟩
variable [DecidableEq κ]
def pH(m:List (κ×Nat))(c:κ):Value:=match m.find? (fun x=>decide (x.1=c))with|some x=>pt x.2|none=> .pointer none
theorem jx{m:List (κ×Nat)}{c:κ}(h:c∉m.map (·.1)):pH m c= .pointer none:=by unfold pH;rw[List.find?_eq_none.2 (fun x hx e=>h (az.2 ⟨x,hx,by simpa using e⟩))]
theorem jy{m:List (κ×Nat)}(hn:(m.map (·.1)).Nodup){x:κ×Nat}(hx:x∈m):pH m x.1=pt x.2:=by
 unfold pH;have hs:(m.find? (fun y=>decide (y.1=x.1))).isSome:=List.find?_isSome.2 ⟨x,hx,by simp⟩;obtain⟨y,hy⟩:=Option.isSome_iff_exists.1 hs;have e:y.1=x.1:=by simpa using List.find?_some hy
 have hm:=cI hy;have:y=x:=by
  have h:=List.pairwise_iff_getElem.1 hn;obtain⟨i,hi,rfl⟩:=List.getElem_of_mem hm;obtain⟨j,hj,rfl⟩:=List.getElem_of_mem hx;rcases Nat.lt_trichotomy i j with h'|h'|h'
  ·exact absurd (by rw[List.getElem_map,List.getElem_map];exact e) (h i j (by simpa using hi) (by simpa using hj) h')
  ·subst h';rfl
  ·exact absurd (by rw[List.getElem_map,List.getElem_map];exact e.symm) (h j i (by simpa using hj) (by simpa using hi) h')
 rw[hy,this]
theorem kV(h:(mapA K b m).holds w F){t e:TypeId}(ht:P.underlying t=some (.map k e))(hz:(zeroValue e).run P w= .ok (.pointer none) w)(c:κ)(hc:K.ok c):(Instr.lookup t (.map (some b)) (K.val c) false).run P w= .ok (pH m c) w:=by
 obtain⟨_,D,hD,hM⟩:=h;obtain⟨v,ps,zw,hv⟩:=hD.lookup K.keyed ht hz (zd:= .held (.pointer none)) (zp:= []) rfl (K.key c hc);rw[zw];have e0:=congrArg (fun o=>o.map Prod.fst) hv;simp only[asIs,Option.map_some,Option.some.injEq]at e0;by_cases hm:c∈m.map (·.1)
 ·obtain⟨x,hx,rfl⟩:=az.1 hm;rw[(hM.at' x hx).2]at e0;cases e0;rw[jy hM.nd hx]
 ·have hn:has D (K.lk c)=false:=by
   cases hh:has D (K.lk c)with
   |false=>rfl
   |true=>obtain⟨x,hx,ex⟩:=hM.no _ hh;exact absurd (az.2 ⟨x,hx,(K.inj _ _ ex).symm⟩) hm
  rw[atKey_of_not_has hn]at e0;cases e0;rw[jx hm]
theorem FX{m:List (κ×Nat)}(hn:(m.map (·.1)).Nodup)(c:κ):(m.filter (fun x=>decide (x.1≠c))).length+(if c∈m.map (·.1)then 1 else 0)=m.length:=by
 induction m with
 |nil=>rfl
 |cons x m ih=>
  rw[List.map_cons,List.nodup_cons]at hn;have KA:=ih hn.2;rw[List.filter_cons];by_cases e:x.1=c
  ·rw[if_neg (by simpa using e),if_pos (by simp[e])];rw[if_neg (by rw[<-e];exact hn.1)]at KA;simp only[List.length_cons];omega
  ·rw[if_pos (by simpa using e)];have:c∈(x::m).map (·.1)↔c∈m.map (·.1):=by simp[Ne.symm e]
   simp only[List.length_cons];by_cases h:c∈m.map (·.1)
   ·rw[if_pos (this.2 h)];rw[if_pos h]at KA;omega
   ·rw[if_neg (fun h'=>h (this.1 h'))];rw[if_neg h]at KA;omega
theorem yq(h:(mapA K b m).holds w F){t e:TypeId}(ht:P.underlying t=some (.map k e))(ty:TypeId)(c:κ)(hc:K.ok c): ∃w',(Builtin.delete_ #[t,k] ty #[.map (some b),K.val c]).run P w= .ok (.tuple #[]) w'∧Goes (mapA K b (m.filter (fun x=>decide (x.1≠c)))) w F w':=by
 obtain⟨hF,D,hD,hM⟩:=h;have Da:=hD.tidy K.keyed;obtain⟨w',zw,cY,NX⟩:=hD.drop K.keyed ht (K.key c hc) ty;have aaO:has D (K.lk c)=decide (c∈m.map (·.1)):=by
  by_cases hm:c∈m.map (·.1)
  ·obtain⟨x,hx,rfl⟩:=az.1 hm;rw[(hM.at' x hx).1];simp[hm]
  ·cases hh:has D (K.lk c)with
   |false=>simp[hm]
   |true=>obtain⟨x,hx,ex⟩:=hM.no _ hh;exact absurd (az.2 ⟨x,hx,(K.inj _ _ ex).symm⟩) hm
 have dc:Maps.size (D.del (K.lk c))=(m.filter (fun x=>decide (x.1≠c))).length:=by
  have h1:=size_del (k:=K.lk c) Da;have h2:=FX hM.nd c;rw[aaO,hM.sz]at h1;by_cases hm:c∈m.map (·.1)
  ·rw[if_pos hm]at h2;rw[if_pos (by simpa using hm)]at h1;omega
  ·rw[if_neg hm]at h2;rw[if_neg (by simpa using hm)]at h1;omega
 refine⟨w',zw,F,⟨hF,_,dc▸tight cY,(List.filter_sublist.map _).nodup hM.nd,dc,fun x hx=> ?_,fun kl tE=> ?_⟩,(uR NX).mono (fun k _ e=>(hF k).2 e),fun _ h=> .inl h⟩
 ·obtain⟨Rs,hx2⟩:=aL.1 hx;have cA:K.lk x.1≠K.lk c:=fun e=>(by simpa using hx2:x.1≠c) (K.inj _ _ e);obtain⟨h1,h2⟩:=hM.at' x Rs;exact⟨by rw[has_del_other cA];exact h1,fun z=>by rw[atKey_del_other cA];exact h2 z⟩
 ·have cA:kl≠K.lk c:=fun e=>by rw[e,has_del_same]at tE;cases tE
  rw[has_del_other cA]at tE;obtain⟨x,hx,ex⟩:=hM.no kl tE;exact⟨x,aL.2 ⟨hx,by have:x.1≠c:=fun e=>cA (by rw[ex,e]);simpa using this⟩,ex⟩
end
end Pj
section
open Go.RowKit aJ
def rowA(e:TypeId)(size:Nat)(v:Value)(n:Nat)(xs:List Value):aJ where
 holds w F:=xs.length=n*size∧((v= .slice none 0 0∧n=0∧ ∀k,¬F k)∨
  ∃g off cap cur,v= .slice (some ⟨g,off,none⟩) n cap∧(∀k,F k↔k=g)∧w.heap[g]?=some (.cells cur e (0,0))∧n<=cap∧cap<=maxLen∧off+cap*size<=cur.size∧(cur.toList.drop off).take (n*size)=xs)
 lt h k hk:=by
  rcases h.2 with⟨_,_,hn⟩|⟨g,off,cap,cur,_,hF,hg,_⟩
  ·exact absurd hk (hn k)
  ·obtain rfl:=(hF k).1 hk;exact(cC.1 hg).1
 keep h hk:=by
  refine⟨h.1, ?_⟩;rcases h.2 with h0|⟨g,off,cap,cur,hv,hF,hg,hr⟩
  ·exact .inl h0
  ·exact .inr ⟨g,off,cap,cur,hv,hF,by rw[hk g ((hF g).2 rfl)];exact hg,hr⟩
section
variable{w w':World}{F:Ft}{e:TypeId}{size:Nat}{v:Value}{n:Nat}{xs:List Value}
theorem fO(w:World)(e:TypeId)(size:Nat){F:Ft}(hF: ∀k,¬F k):(rowA e size (.slice none 0 0) 0 []).holds w F:=⟨by simp, .inl ⟨rfl,rfl,hF⟩⟩
theorem bX(h:(rowA e size v n xs).holds w F): ∃ao cap,v= .slice ao n cap∧n<=cap∧cap<=maxLen∧(0<n-> ∃g off,ao=some ⟨g,off,none⟩∧F g)∧ ∀a,ao=some a->F a.block:=by
 rcases h.2 with⟨rfl,rfl,_⟩|⟨g,off,cap,cur,rfl,hF,hg,hn,hm,_⟩
 ·exact⟨none,0,rfl,af _,bh _,fun h=>by omega,fun a h=>by cases h⟩
 ·exact⟨_,cap,rfl,hn,hm,fun _=>⟨g,off,rfl,(hF g).2 rfl⟩,fun a h=>by cases h;exact(hF g).2 rfl⟩
theorem rX(h:(rowA e size v n xs).holds w F):xs.length=n*size:=h.1
theorem bf{g off cap:Nat}(h:(rowA e size (.slice (some ⟨g,off,none⟩) n cap) n xs).holds w F)(j:Nat)(hj:j<n*size):w.cell? ⟨g,off+j,none⟩=xs[j]?:=by
 rcases h.2 with⟨h0,_⟩|⟨g',rU,bP,cur,hv,hF,hg,hn,hm,hs,ht⟩
 ·cases h0
 ·cases hv;rw[cell_of_row w g (off+j) cur e (0,0) hg,<-ht,List.getElem?_take,if_pos hj,List.getElem?_drop];simp
theorem dw{g off cap:Nat}(h:(rowA e size (.slice (some ⟨g,off,none⟩) n cap) n xs).holds w F)(j:Nat):w.frozen? ⟨g,j,none⟩=false:=by
 rcases h.2 with⟨h0,_⟩|⟨g',rU,bP,cur,hv,hF,hg,hn,hm,hs,ht⟩
 ·cases h0
 ·cases hv;simp only[World.frozen?,hg];simp
theorem mf{g off cap:Nat}(h:(rowA e size (.slice (some ⟨g,off,none⟩) n cap) n xs).holds w F):g<w.heap.size∧F g:=by
 rcases h.2 with⟨h0,_⟩|⟨g',rU,bP,cur,hv,hF,hg,hn,hm,hs,ht⟩
 ·cases h0
 ·cases hv;exact⟨(cC.1 hg).1,(hF g).2 rfl⟩
theorem zG(l:List Value)(off m j:Nat)(u:Value)(hj:j<m):(((l.set (off+j) u).drop off).take m)=((l.drop off).take m).set j u:=by
 apply List.ext_getElem?;intro k;simp only[List.getElem?_take,List.getElem?_drop,List.getElem?_set,List.length_take,List.length_drop];by_cases hk:k<m
 ·rw[if_pos hk,if_pos hk];by_cases e:j=k
  ·subst e;rw[if_pos rfl,if_pos rfl];by_cases h:off+j<l.length
   ·rw[if_pos h,if_pos (by omega)]
   ·rw[if_neg h,if_neg (by omega)]
  ·rw[if_neg (by omega),if_neg e]
 ·rw[if_neg hk,if_neg hk,if_neg (by omega)]
theorem cO{g off cap:Nat}(h:(rowA e size (.slice (some ⟨g,off,none⟩) n cap) n xs).holds w F)(j:Nat)(u:Value)(hj:j<n*size):Goes (rowA e size (.slice (some ⟨g,off,none⟩) n cap) n (xs.set j u)) w F (w.setCell ⟨g,off+j,none⟩ u):=by
 rcases h.2 with⟨h0,_⟩|⟨g',rU,bP,cur,hv,hF,hg,hn,hm,hs,ht⟩
 ·cases h0
 ·cases hv;refine⟨F,⟨by rw[List.length_set];exact h.1, .inr ⟨g,off,cap,cur.setIfInBounds (off+j) u,rfl,hF,heap_setCell_same w g (off+j) cur e u hg,hn,hm,by simpa using hs, ?_⟩⟩,(Only.refl _ _).setCell _ _ (fun _=>(hF g).2 rfl),fun _ h=> .inl h⟩;rw[Array.toList_setIfInBounds,zG _ _ _ _ _ hj,ht]
theorem nS{g off cap:Nat}(h:(rowA e size (.slice (some ⟨g,off,none⟩) n cap) n xs).holds w F)(i:Nat)(hi:i<=n):(rowA e size (.slice (some ⟨g,off+i*size,none⟩) (n-i) (cap-i)) (n-i) (xs.drop (i*size))).holds w F:=by
 rcases h.2 with⟨h0,_⟩|⟨g',rU,bP,cur,hv,hF,hg,hn,hm,hs,ht⟩
 ·cases h0
 ·cases hv;have hc:(cap-i)*size+i*size=cap*size:=by rw[<-Nat.add_mul];congr 1;omega
  have hc':(n-i)*size+i*size=n*size:=by rw[<-Nat.add_mul];congr 1;omega
  refine⟨by rw[List.length_drop,h.1];omega, .inr ⟨g,off+i*size,cap-i,cur,rfl,hF,hg,by omega,by omega,by omega, ?_⟩⟩;rw[<-ht,List.drop_take,List.drop_drop];congr 1;omega
end
section
variable{P:Program}(w:World)
theorem qo(t ty e:TypeId)(i:TypeInfo)(ht:P.underlying t=some (.slice e))(hi:P.info? e=some i)(g off Hg vd:Nat)(cur:Array Value)(hg:w.heap[g]?=some (.cells cur e (0,0)))(a:Addr)(m c:Nat)(news:List Value)(hl:news.length=m*i.size)(mR: ∀j u,news[j]?=some u->w.cell? (a.add j)=some u)(h1: ∀u∈news,u.oneCell'=true)(uy:Hg+m<=vd)(VT:off+Hg*i.size+news.length<=cur.size):(Builtin.append_ #[t,t] ty #[.slice (some ⟨g,off,none⟩) Hg vd, .slice (some a) m c]).run P w= .ok (.slice (some ⟨g,off,none⟩) (Hg+m) vd) (w.setRow g (cur.toList.take (off+Hg*i.size)++news++cur.toList.drop (off+Hg*i.size+news.length)).toArray):=by have hf:=run_firstCells_some (P:=P) w i.size m a m c news hl mR;have ED:=run_storeCells_at P g (off+Hg*i.size) e news 0 cur w hg (by simpa using VT) h1;simp only[Nat.add_zero]at ED;simp[Builtin.append_,run_underlying ht,sizeOf,typeInfo,hi,Builtin.lenOf,uy,hf,Addr.add_lit,ED]
theorem yG(t ty e:TypeId)(i:TypeInfo)(z:Value)(size bytes:Nat)(ht:P.underlying t=some (.slice e))(hi:P.info? e=some i)(hz:i.zero=some z)(kr:i.size=size)(z6:i.bytes=bytes)(Wj:z.cells.size=size)(dc:0<size){F:Ft}(v:Value)(n:Nat)(xs:List Value)(cY:(rowA e size v n xs).holds w F)(a:Addr)(m c:Nat)(news:List Value)(hl:news.length=m*size)(mR: ∀j u,news[j]?=some u->w.cell? (a.add j)=some u)(h1: ∀u∈news,u.oneCell'=true)(IH:n+m<=maxLen)(iJ:(n+m)*bytes<=140737488355328): ∃v' w',(Builtin.append_ #[t,t] ty #[v, .slice (some a) m c]).run P w= .ok v' w'∧Goes (rowA e size v' (n+m) (xs++news)) w F w':=by
 subst kr;subst z6;have aa1:n+m<=9223372036854775807:=by simp only[maxLen]at IH;omega
 have hlen:(xs++news).length=(n+m)*i.size:=by rw[aH,cY.1,hl,Nat.add_mul]
 have grown: ∀(old:Nat),old<n+m->
   Goes (rowA e i.size (.slice (some ⟨w.heap.size,0,none⟩) (n+m) (grownCap w (n+m) old e)) (n+m) (xs++news)) w F
    (w.drew.alloc (.cells (xs.toArray++news.toArray++Builtin.zeroCells z.cells (grownCap w (n+m) old e-(n+m))) e)):=by
  intro old ho;have LR:=grownCap_ge w (n+m) old e;have zr:grownCap w (n+m) old e<=maxLen:=grownCap_le_maxLen w (n+m) old e IH;refine⟨fun k=>k=w.heap.size,⟨hlen, .inr ⟨w.heap.size,0,_,_,rfl,fun k=>Iff.rfl,heap_alloc_new w.drew _,LR,zr, ?_, ?_⟩⟩,((Only.refl _ w).drew).alloc _,fun k h=> .inr (by omega)⟩
  ·simp only[Array.size_append,List.size_toArray,size_zeroCells,Wj,cY.1,hl,<-Nat.add_mul];rw[Nat.zero_add];apply Nat.le_of_eq;congr 1;omega
  ·simp only[Array.toList_append,List.append_assoc,List.drop_zero];rw[<-List.append_assoc,<-hlen];exact List.take_left
 rcases cY.2 with⟨rfl,rfl,hF⟩|⟨g,off,cap,cur,rfl,hF,hg,hnc,zr,hcs,UK⟩
 ·have hx:xs= []:=List.eq_nil_of_length_eq_zero (by simpa using cY.1);subst hx;by_cases hm:m=0
  ·subst hm;have hn:news= []:=List.eq_nil_of_length_eq_zero (by simpa using hl);subst hn;refine⟨.slice none 0 0,w, ?_,Goes.refl (fO w e i.size hF)⟩;simp[Builtin.append_,run_underlying ht,sizeOf,typeInfo,hi,Builtin.lenOf,Builtin.firstCells,loadCells,loadCellsFrom]
  ·have hr:=run_append_nil (P:=P) w t ty e i z ht hi hz a m c news hl mR (by omega) (by omega) (by have hb:=iJ;simp only[Nat.zero_add]at hb;omega);have hgr:=grown 0 (by omega);simp only[Nat.zero_add,List.nil_append,Array.empty_append]at hgr⊢;exact⟨_,_,hr,hgr⟩
 ·by_cases uy:n+m<=cap
  ·have hle:(n+m)*i.size<=cap*i.size:=Nat.mul_le_mul_right _ uy;have abD:(n+m)*i.size=n*i.size+m*i.size:=Nat.add_mul ..;have VT:off+n*i.size+news.length<=cur.size:=by rw[hl];omega
   have hr:=qo (P:=P) w t ty e i ht hi g off n cap cur hg a m c news hl mR h1 uy VT;refine⟨_,_,hr,F,⟨hlen, .inr ⟨g,off,cap,_,rfl,hF,setRow_heap w g cur _ e _ hg,uy,zr, ?_, ?_⟩⟩,⟨rfl,rfl,rfl,by simp,fun k _ hk=>setRow_other w g k _ (fun e=>hk ((hF k).2 e))⟩,fun _ h=> .inl h⟩
   ·simp only[List.size_toArray,aH,List.length_take,List.length_drop,Array.length_toList];omega
   ·have hlo:off<=cur.toList.length:=by simp;omega
    have e1:(cur.toList.take (off+n*i.size)).drop off=xs:=by rw[List.drop_take,<-UK];congr 1;omega
    rw[List.append_assoc,List.drop_append_of_le_length (by rw[List.length_take];simp;omega),e1,<-List.append_assoc,<-hlen];exact List.take_left
  ·have hld: ∀j u,xs[j]?=some u->w.cell? ((⟨g,off,none⟩:Addr).add j)=some u:=by
    intro j u hu;have hj:j<n*i.size:=by rw[<-cY.1];exact(cz.1 hu).1
    rw[Addr.add_lit,bf cY j hj];exact hu
   have hr:=run_append_grow (P:=P) w t ty e i z ht hi hz ⟨g,off,none⟩ n cap xs cY.1 hld a m c news hl mR (by omega) (by omega) (growslice_fits (by omega) iJ);exact⟨_,_,hr,grown cap (by omega)⟩
theorem pJ{o:Oper}{a:Act}{K:Act->World->Prop}{Q:Exit->Act->World->Prop}(s x:Operand)(t:TypeId)(ho:o.op= .call {callee:= .builtin .append,args:= #[s,x],argTypes:= #[t,t]})(e:TypeId)(i:TypeInfo)(z:Value)(size bytes:Nat)(ht:P.underlying t=some (.slice e))(hi:P.info? e=some i)(hz:i.zero=some z)(kr:i.size=size)(z6:i.bytes=bytes)(Wj:z.cells.size=size)(dc:0<size){F:Ft}(v:Value)(n:Nat)(xs:List Value)(hs:a.eval s=v)(cY:(rowA e size v n xs).holds w F)(ad:Addr)(m c:Nat)(news:List Value)(hx:a.eval x= .slice (some ad) m c)(hl:news.length=m*size)(mR: ∀j u,news[j]?=some u->w.cell? (ad.add j)=some u)(h1: ∀u∈news,u.oneCell'=true)(IH:n+m<=maxLen)(iJ:(n+m)*bytes<=140737488355328)(h: ∀fX vn w',Goes (rowA e size (.slice fX (n+m) vn) (n+m) (xs++news)) w F w'->K (a.put o.dst (.slice fX (n+m) vn)) w'):o.wp P a w K Q:=by obtain⟨v',w',hr,h2⟩:=yG (P:=P) w t o.type e i z size bytes ht hi hz kr z6 Wj dc v n xs cY ad m c news hl mR h1 IH iJ;obtain⟨fX,vn,rfl,_⟩:=bX (Exists.choose_spec h2).1;unfold Oper.wp execOp;simp only[ho,resolve,invoke,builtin,Sem.run_bind,Sem.run_pure,Result.andThen_ok,List.map_toArray,List.map_cons,List.map_nil,hs,hx,hr];exact h fX vn w' h2
theorem aT{ops:Array Oper}{rest:List Oper}{o:Oper}{a:Act}{Q:Exit->Act->World->Prop}(SL:o.guard=none)(s x:Operand)(t:TypeId)(ho:o.op= .call {callee:= .builtin .append,args:= #[s,x],argTypes:= #[t,t]})(e:TypeId)(i:TypeInfo)(z:Value)(size bytes:Nat)(ht:P.underlying t=some (.slice e))(hi:P.info? e=some i)(hz:i.zero=some z)(kr:i.size=size)(z6:i.bytes=bytes)(Wj:z.cells.size=size)(dc:0<size){F:Ft}(v:Value)(n:Nat)(xs:List Value)(hs:a.eval s=v)(cY:(rowA e size v n xs).holds w F)(ad:Addr)(m c:Nat)(news:List Value)(hx:a.eval x= .slice (some ad) m c)(hl:news.length=m*size)(mR: ∀j u,news[j]?=some u->w.cell? (ad.add j)=some u)(h1: ∀u∈news,u.oneCell'=true)(IH:n+m<=maxLen)(iJ:(n+m)*bytes<=140737488355328)(h: ∀fX vn w',Goes (rowA e size (.slice fX (n+m) vn) (n+m) (xs++news)) w F w'->wpList P ops Q rest (a.put o.dst (.slice fX (n+m) vn)) w'):wpList P ops Q (o::rest) a w:=
 wpList_plain SL fun _ hK=>pJ w s x t ho e i z size bytes ht hi hz kr z6 Wj dc v n xs hs cY ad m c news hx hl mR h1 IH iJ fun fX vn w' h2=>hK _ _ (h fX vn w' h2)
theorem mq{ops:Array Oper}{o:Oper}{a:Act}{K:Act->World->Prop}{Q:Exit->Act->World->Prop}{E:Prop}(SL:o.guard=none)(s x:Operand)(t:TypeId)(ho:o.op= .call {callee:= .builtin .append,args:= #[s,x],argTypes:= #[t,t]})(e:TypeId)(i:TypeInfo)(z:Value)(size bytes:Nat)(ht:P.underlying t=some (.slice e))(hi:P.info? e=some i)(hz:i.zero=some z)(kr:i.size=size)(z6:i.bytes=bytes)(Wj:z.cells.size=size)(dc:0<size){F:Ft}(v:Value)(n:Nat)(xs:List Value)(hs:a.eval s=v)(cY:(rowA e size v n xs).holds w F)(ad:Addr)(m c:Nat)(news:List Value)(hx:a.eval x= .slice (some ad) m c)(hl:news.length=m*size)(mR: ∀j u,news[j]?=some u->w.cell? (ad.add j)=some u)(h1: ∀u∈news,u.oneCell'=true)(IH:n+m<=maxLen)(iJ:(n+m)*bytes<=140737488355328)(h: ∀fX vn w',Goes (rowA e size (.slice fX (n+m) vn) (n+m) (xs++news)) w F w'->K (a.put o.dst (.slice fX (n+m) vn)) w'):if Region.wanted o (yielded ops a.tmps)=true then Oper.wp P o a w K Q else E:=by
 have hw:Region.wanted o (yielded ops a.tmps)=true:=by simp[Region.wanted,SL]
 rw[if_pos hw];exact pJ w s x t ho e i z size bytes ht hi hz kr z6 Wj dc v n xs hs cY ad m c news hx hl mR h1 IH iJ h
end
end
namespace Pj
open Go.RowKit aJ Go.Sort
def ep(o:Option Nat):Value:= .pointer (o.map fun p=>⟨p,0,none⟩)
section
variable{α:Type} [Inhabited α]{enc:α->Value}{w:World}{F:Ft}{e:TypeId}{g off n cap:Nat}
theorem row_holds{zs:List α}(h:(rowA e 1 (.slice (some ⟨g,off,none⟩) n cap) n (zs.map enc)).holds w F):Holds enc w g off zs.toArray:=by
 intro j hj;have hl:=rX h;simp only[aF,Nat.mul_one]at hl;have VY:j<zs.length:=by simpa using hj
 refine⟨?_,dw h _⟩;rw[bf h j (by omega),List.getElem?_map,aY VY];simp[VY]
theorem rZ{xs:List Value}(h:(rowA e 1 (.slice (some ⟨g,off,none⟩) n cap) n xs).holds w F)(arr:Array α)(hs:arr.size=n)(m:Nat)(hm:m<=n)(q:Nat):Goes (rowA e 1 (.slice (some ⟨g,off,none⟩) m cap) m ((arr.toList.take m).map enc)) w F (putRow enc (Sort.ahead w q) g off arr):=by
 rcases h.2 with⟨h0,_⟩|⟨g',rU,bP,cur,hv,hF,hg,hn,zr,dc,ht⟩
 ·cases h0
 ·cases hv;have hb:(putRow enc (Sort.ahead w q) g off arr).heap[g]?=some (.cells (putCells enc off arr cur) e (0,0)):=by
   show(w.heap.modify g (onCells (putCells enc off arr)))[g]?=_;rw[Array.getElem?_modify,if_pos rfl,hg];rfl
  have ho: ∀k,k≠g->(putRow enc (Sort.ahead w q) g off arr).heap[k]?=w.heap[k]?:=by intro k hk;show(w.heap.modify g (onCells (putCells enc off arr)))[k]?=_;rw[Array.getElem?_modify,if_neg (Ne.symm hk)]
  have hpc:(putCells enc off arr cur).size=cur.size:=by simp[putCells]
  refine⟨F,⟨by simp;omega, .inr ⟨g,off,cap,_,rfl,hF,hb,by omega,zr,by rw[hpc];exact dc, ?_⟩⟩,⟨rfl,rfl,rfl,by simp[putRow,mapBlock],fun k _ hk=>ho k (fun e=>hk ((hF k).2 e))⟩,fun _ h=> .inl h⟩;apply List.ext_getElem?;intro k;rw[List.getElem?_take,List.getElem?_map,List.getElem?_take,Nat.mul_one];by_cases hk:k<m
  ·rw[if_pos hk,if_pos hk,List.getElem?_drop,Array.getElem?_toList];unfold putCells;rw[Array.getElem?_mapIdx];have aN:off+k<cur.size:=by omega
   rw[Array.getElem?_eq_getElem aN,Option.map_some,if_pos ⟨by omega,by omega⟩,show off+k-off=k by omega];have mQ:k<arr.size:=by omega
   rw[Array.getElem?_toList,Array.getElem?_eq_getElem mQ,getElem!_pos arr k mQ];rfl
  ·rw[if_neg hk,if_neg hk];rfl
end
end Pj
section
open Go.RowKit
section
variable{α:Type}{f:α->List Value}{size:Nat}
def flat(f:α->List Value)(l:List α):List Value:=l.flatMap f
theorem nC(l:List α)(x:α):flat f (l++ [x])=flat f l++f x:=by simp[flat]
theorem wu(l l':List α):flat f (l++l')=flat f l++flat f l':=by simp[flat]
theorem rD(hf: ∀x,(f x).length=size)(l:List α):(flat f l).length=l.length*size:=by
 induction l with
 |nil=>simp[flat]
 |cons c l ih=>rw[flat,List.flatMap_cons,aH];show(f c).length+(flat f l).length=_;rw[hf,ih,List.length_cons,Nat.add_mul,Nat.one_mul,Nat.add_comm]
theorem vr(hf: ∀x,(f x).length=size)(l:List α)(k j:Nat)(hk:k<l.length)(hj:j<size):(flat f l)[k*size+j]?=(f (l[k]'hk))[j]?:=by
 induction l generalizing k with
 |nil=>simp at hk
 |cons c l ih=>
  rw[flat,List.flatMap_cons]
  match k with
  |0=>rw[List.getElem?_append_left (by rw[hf];omega)];simp
  |k+1=>
   have e0:(k+1)*size=k*size+size:=by rw[Nat.add_mul,Nat.one_mul]
   rw[List.getElem?_append_right (by rw[hf];omega),hf];have e:(k+1)*size+j-size=k*size+j:=by omega
   rw[e];exact ih k (by simpa using hk)
end
end
namespace Hp
section
variable{α:Type}
structure Ord(le:α->α->Prop):Prop where
 trans: ∀{a b c},le a b->le b c->le a c
 total: ∀a b,le a b∨le b a
def par(k:Nat):Nat:=(k-1)/2
theorem ft{k:Nat}(h:0<k):par k<k:=by unfold par;omega
def swap(l:List α)(i j:Nat):List α:=
 match l[i]?,l[j]? with
 |some x,some y=>(l.set i y).set j x
 |_,_=>l
theorem swap_eq{l:List α}{i j:Nat}{x y:α}(hx:l[i]?=some x)(hy:l[j]?=some y):swap l i j=(l.set i y).set j x:=by unfold swap;rw[hx,hy]
theorem uP(l:List α)(i j:Nat):(swap l i j).length=l.length:=by unfold swap;split<;>simp
theorem su{l:List α}{i j:Nat}(hi:i<l.length)(hj:j<l.length)(k:Nat):(swap l i j)[k]?=if k=j then l[i]? else if k=i then l[j]? else l[k]?:=by
 rw[swap_eq (aY hi) (aY hj)];by_cases h1:k=j
 ·subst h1;rw[if_pos rfl,List.getElem?_set_self (by simpa using hj),aY hi]
 ·rw[if_neg h1,List.getElem?_set_ne (Ne.symm h1)];by_cases h2:k=i
  ·subst h2;rw[if_pos rfl,List.getElem?_set_self hi,aY hj]
  ·rw[if_neg h2,List.getElem?_set_ne (Ne.symm h2)]
theorem set_perm: ∀{l:List α} {i:Nat} {x y:α},l[i]?=some x->(y::l).Perm (x::l.set i y)
 | [],_,_,_,h=>by simp at h
 |a::l,0,x,y,h=>by simp at h;subst h;exact List.Perm.swap _ _ _
 |a::l,i+1,x,y,h=>by
  have h':l[i]?=some x:=by simpa using h
  show(y::a::l).Perm (x::a::l.set i y);exact((List.Perm.swap a y l).trans ((set_perm h').cons a)).trans (List.Perm.swap x a _)
theorem swap_perm{l:List α}{i j:Nat}(hi:i<l.length)(hj:j<l.length):(swap l i j).Perm l:=by
 have hx:=aY hi;have hy:=aY hj;rw[swap_eq hx hy];have h1:=set_perm (y:=l[j]) hx;by_cases e:i=j
 ·subst e;have:(l.set i l[i]).set i l[i]=l:=by simp
  rw[this]
 ·have NY:(l.set i l[j])[j]?=some l[j]:=by rw[List.getElem?_set_ne e,hy]
  have h2:=set_perm (y:=l[i]) NY;have h3:(l[j]::l[i]::l).Perm (l[j]::l[i]::(l.set i l[j]).set j l[i]):=by refine(List.Perm.swap _ _ _).trans ?_;refine(h1.cons l[i]).trans ?_;refine(List.Perm.swap _ _ _).trans ?_;refine(h2.cons l[i]).trans ?_;exact List.Perm.swap _ _ _
  exact((List.perm_cons _).1 ((List.perm_cons _).1 h3)).symm
variable(le:α->α->Prop)
def Edge(l:List α)(p k:Nat):Prop:= ∀x y,l[p]?=some x->l[k]?=some y->le x y
structure Near(l:List α)(n i:Nat):Prop where
 far: ∀k,0<k->k<n->k≠i->par k≠i->Edge le l (par k) k
 over: ∀k,0<k->k<n->par k=i->0<i->Edge le l (par i) k
structure Mf(l:List α)(n i:Nat):Prop extends Near le l n i where
 below: ∀k,0<k->k<n->par k=i->Edge le l i k
structure Ic(l:List α)(n i:Nat):Prop extends Near le l n i where
 above:0<i->Edge le l (par i) i
def Heap(l:List α)(n:Nat):Prop:= ∀k,0<k->k<n->Edge le l (par k) k
variable{le}
theorem Mf.heap{l:List α}{n i:Nat}(h:Mf le l n i)(ha:0<i->Edge le l (par i) i):Heap le l n:=by
 intro k hk hn;by_cases e:k=i
 ·subst e;exact ha hk
 ·by_cases e':par k=i
  ·rw[e'];exact h.below k hk hn e'
  ·exact h.far k hk hn e e'
theorem Ic.heap{l:List α}{n i:Nat}(h:Ic le l n i)(hb: ∀k,0<k->k<n->par k=i->Edge le l i k):Heap le l n:=by
 intro k hk hn;by_cases e:k=i
 ·subst e;exact h.above hk
 ·by_cases e':par k=i
  ·rw[e'];exact hb k hk hn e'
  ·exact h.far k hk hn e e'
theorem Edge.trans(o:Ord le){l:List α}{a b c:Nat}(hb:b<l.length)(h1:Edge le l a b)(h2:Edge le l b c):Edge le l a c:=
 fun x z hx hz=>o.trans (h1 x _ hx (aY hb)) (h2 _ z (aY hb) hz)
theorem Edge.of_eq{l l':List α}{a b a' b':Nat}(h:Edge le l a b)(ha:l'[a']?=l[a]?)(hb:l'[b']?=l[b]?):Edge le l' a' b':=by intro x y hx hy;rw[ha]at hx;rw[hb]at hy;exact h x y hx hy
theorem Heap.near(o:Ord le){l:List α}{n:Nat}(hn:n<=l.length)(h:Heap le l n)(i:Nat):Near le l n i:=by refine⟨fun k h0 h1 _ _=>h k h0 h1,fun k h0 h1 e hi=> ?_⟩;have:=ft h0;have h2:=h k h0 h1;rw[e]at h2;exact(h i hi (by omega)).trans o (by omega) h2
theorem Heap.least(o:Ord le){l:List α}{n:Nat}(hn:n<=l.length)(h:Heap le l n): ∀k,k<n->Edge le l 0 k:=by
 intro k
 induction k using Nat.strongRecOn with
 |ind k ih=>
  intro hk;by_cases h0:k=0
  ·subst h0;intro x y hx hy;rw[hx]at hy;cases hy;exact(o.total x x).elim id id
  ·have hp:=ft (Nat.pos_of_ne_zero h0);exact(ih _ hp (by omega)).trans o (by omega) (h k (by omega) hk)
theorem Mf.step(o:Ord le){l:List α}{n j:Nat}(hn:n<=l.length)(hj:j<n)(h0:0<j)(h:Mf le l n j)(aN:Edge le l j (par j)):Mf le (swap l (par j) j) n (par j):=by
 have hp:=ft h0;have at':=su (l:=l) (i:=par j) (j:=j) (by omega) (by omega);have ai:(swap l (par j) j)[par j]?=l[j]?:=by rw[at',if_neg (by omega),if_pos rfl]
 have aj:(swap l (par j) j)[j]?=l[par j]?:=by rw[at',if_pos rfl]
 have ao: ∀k,k≠j->k≠par j->(swap l (par j) j)[k]?=l[k]?:=fun k h1 h2=>by rw[at',if_neg h1,if_neg h2]
 refine⟨⟨fun k hk Gt h1 h2=> ?_,fun k hk Gt h1 h2=> ?_⟩,fun k hk Gt h1=> ?_⟩
 ·have hkj:k≠j:=fun e=>h2 (by rw[e]);by_cases e:par k=j
  ·have:=h.over k hk Gt e h0;refine this.of_eq (by rw[e];exact aj) (ao k hkj h1)
  ·exact(h.far k hk Gt hkj e).of_eq (ao _ e h2) (ao _ hkj h1)
 ·have hpp:=ft h2;have up:Edge le l (par (par j)) (par j):=h.far (par j) h2 (by omega) (by omega) (by omega);by_cases e:k=j
  ·subst e;exact up.of_eq (ao _ (by omega) (by omega)) aj
  ·have mQ:=ft hk;have:=h.far k hk Gt e (by omega);rw[h1]at this;exact(up.trans o (by omega) this).of_eq (ao _ (by omega) (by omega)) (ao _ e (by omega))
 ·by_cases e:k=j
  ·subst e;exact aN.of_eq ai aj
  ·have mQ:=ft hk;have:=h.far k hk Gt e (by omega);rw[h1]at this;exact(aN.trans o (by omega) this).of_eq ai (ao _ e (by omega))
theorem Near.step{l:List α}{n i j:Nat}(hn:n<=l.length)(hj:j<n)(Rk:par j=i)(h0:0<j)(h:Near le l n i)(aN:Edge le l j i)(hm: ∀k,0<k->k<n->par k=i->Edge le l j k):Ic le (swap l i j) n j:=by
 have hp:=ft h0;have at':=su (l:=l) (i:=i) (j:=j) (by omega) (by omega);have ai:(swap l i j)[i]?=l[j]?:=by rw[at',if_neg (by omega),if_pos rfl]
 have aj:(swap l i j)[j]?=l[i]?:=by rw[at',if_pos rfl]
 have ao: ∀k,k≠j->k≠i->(swap l i j)[k]?=l[k]?:=fun k h1 h2=>by rw[at',if_neg h1,if_neg h2]
 refine⟨⟨fun k hk Gt h1 h2=> ?_,fun k hk Gt h1 _=> ?_⟩,fun _=> ?_⟩
 ·by_cases e:k=i
  ·subst e;have mQ:=ft hk;exact(h.over j h0 hj Rk hk).of_eq (ao _ (by omega) (by omega)) ai
  ·by_cases e':par k=i
   ·exact(hm k hk Gt e').of_eq (by rw[e'];exact ai) (ao _ h1 e)
   ·exact(h.far k hk Gt e e').of_eq (ao _ h2 e') (ao _ h1 e)
 ·have mQ:=ft hk;have:=h.far k hk Gt (by omega) (by omega);rw[h1]at this;exact this.of_eq (by rw[Rk];exact ai) (ao _ (by omega) (by omega))
 ·exact aN.of_eq (by rw[Rk];exact ai) aj
theorem Heap.changed(o:Ord le){l l':List α}{n i:Nat}(hn:n<=l.length)(h:Heap le l n)(hs: ∀k,k<n->k≠i->l'[k]?=l[k]?):Near le l' n i:=by
 have hN:=h.near o hn i;refine⟨fun k h0 h1 h2 h3=> ?_,fun k h0 h1 h2 h3=> ?_⟩
 ·have:=ft h0;exact(hN.far k h0 h1 h2 h3).of_eq (hs _ (by omega) h3) (hs _ h1 h2)
 ·have:=ft h0;have:=ft h3;exact(hN.over k h0 h1 h2 h3).of_eq (hs _ (by omega) (by omega)) (hs _ h1 (by omega))
theorem Heap.mono{l l':List α}{n n':Nat}(h:Heap le l n)(hn:n'<=n)(hs: ∀k,k<n'->l'[k]?=l[k]?):Heap le l' n':=by intro k h0 h1;have:=ft h0;exact(h k h0 (by omega)).of_eq (hs _ (by omega)) (hs _ h1)
theorem Heap.push{l:List α}(x:α)(h:Heap le l l.length):Mf le (l++ [x]) (l.length+1) l.length:=by
 have hs: ∀k,k<l.length->(l++ [x])[k]?=l[k]?:=fun k hk=>List.getElem?_append_left hk;refine⟨⟨fun k h0 h1 h2 h3=> ?_,fun k h0 h1 h2 _=> ?_⟩,fun k h0 h1 h2=> ?_⟩
 ·have:=ft h0;exact(h k h0 (by omega)).of_eq (hs _ (by omega)) (hs _ (by omega))
 ·have:=ft h0;omega
 ·have:=ft h0;omega
end
end Hp
namespace aG
open Go.RowKit
def sm(l:List UInt8):Nat->Nat->Int
 |0,_=>0
 |k+1,j=>if k %4=j then(3*sm l k j+((l[k]?.getD 0).toNat:Int)) %256 else sm l k j
theorem gQ(l:List UInt8)(k j:Nat):0<=sm l k j∧sm l k j<=255:=by
 induction k with
 |zero=>simp[sm]
 |succ k ih=>
  unfold sm;split
  ·omega
  ·exact ih
theorem kB(l:List UInt8)(k j:Nat)(h:k %4=j):sm l (k+1) j=(3*sm l k j+((l[k]?.getD 0).toNat:Int)) %256:=by rw[sm,if_pos h]
theorem bL(l:List UInt8)(k j:Nat)(h:k %4≠j):sm l (k+1) j=sm l k j:=by rw[sm,if_neg h]
def dg(n:Int):UInt8:=if n<10 then(48+n.toNat).toUInt8 else(87+n.toNat).toUInt8
def two(n:Int):List UInt8:= [dg (n/16),dg (n %16)]
def hex(l:List UInt8):List UInt8:=two (sm l l.length 0)++two (sm l l.length 1)++two (sm l l.length 2)++two (sm l l.length 3)
def line(l:List UInt8):List UInt8:=l++ [32]++hex l
def acc(l:List UInt8)(k:Nat):Nat->List UInt8
 |0=>l++ [32]
 |j+1=>acc l k j++two (sm l k j)
theorem RP(l:List UInt8)(k j:Nat):(acc l k j).length=l.length+1+2*j:=by
 induction j with
 |zero=>simp[acc]
 |succ j ih=>simp[acc,two,ih];omega
theorem Vi(l:List UInt8)(k j n:Nat)(h:l.length<=n)(hj:j<=4):(acc l k j).length<=n+9:=by rw[RP];omega
theorem kL(a b:List UInt8):(⟨a.toArray⟩:ByteArray)++(⟨b.toArray⟩:ByteArray)=⟨(a++b).toArray⟩:=by apply ByteArray.ext;simp
theorem RV(s:ByteArray):(⟨s.data.toList.toArray⟩:ByteArray)=s:=by apply ByteArray.ext;simp
theorem zQ(x:Int)(h0:0<=x)(h1:x<=15):(⟨#[48,49,50,51,52,53,54,55,56,57,97,98,99,100,101,102]⟩:ByteArray).extract x.toNat (x+1).toNat=⟨[dg x].toArray⟩:=by
 obtain⟨n,rfl⟩:=Int.eq_ofNat_of_zero_le h0;have h:n<16:=by omega
 have e: ∀m:Fin 16,(⟨#[48,49,50,51,52,53,54,55,56,57,97,98,99,100,101,102]⟩:ByteArray).extract ((m.val:Int)).toNat ((m.val:Int)+1).toNat=⟨[dg (m.val:Int)].toArray⟩:=by decide+kernel
 exact e ⟨n,h⟩
theorem qY(l:List UInt8)(k j:Nat):(⟨(acc l k j).toArray⟩:ByteArray)++((⟨#[48,49,50,51,52,53,54,55,56,57,97,98,99,100,101,102]⟩:ByteArray).extract (sm l k j/16).toNat (sm l k j/16+1).toNat++(⟨#[48,49,50,51,52,53,54,55,56,57,97,98,99,100,101,102]⟩:ByteArray).extract (sm l k j %16).toNat (sm l k j %16+1).toNat)=⟨(acc l k (j+1)).toArray⟩:=by have b:=gQ l k j;rw[zQ _ (by omega) (by omega),zQ _ (by omega) (by omega),kL,kL];rfl
theorem Mh(l:List UInt8):acc l l.length 4=line l:=by simp[acc,line,hex,List.append_assoc]
theorem RQ(l:List UInt8)(k:Nat)(h:k=l.length):Ending.returned (.string ⟨(acc l k 4).toArray⟩)= .returned (.string ⟨(line l).toArray⟩):=by rw[h,Mh]
theorem Ce(s:ByteArray)(k:Nat):s++(⟨#[32]⟩:ByteArray)=⟨(acc s.data.toList k 0).toArray⟩:=by have h:=kL s.data.toList [32];rw[RV]at h;exact h
theorem kZ{a b:ByteArray}(h:a=b):Value.string a= .string b:=by rw[h]
end aG
namespace ud
open Go.RowKit
variable{w:World}{b off len:Nat}
structure Xj where
 k:Int
 a:Int
 b:Int
 le:Int
 re:Int
 ca:Int
 bo:Int
 he:Int
 s:ByteArray
def Xj.cs(x:Xj):Array Value:= #[.int .i64 x.k, .int .i64 x.a, .int .i64 x.b, .int .i64 x.le, .int .i64 x.re, .int .i64 x.ca, .int .i64 x.bo, .int .i64 x.he, .string x.s]
def Yr(w:World)(b off len:Nat)(ops:Nat->Xj):Prop:=
 ∀i,i<len-> ∀j,j<9->w.cell? ⟨b,off+i*9+j,none⟩=some ((ops i).cs.getD j .nilIface)
theorem Yr.below{w':World}{ops:Nat->Xj}{B:Nat}(h:Yr w b off len ops)(hb:Below B w w')(hB:b<B):Yr w' b off len ops:=by intro i hi j hj;rw[hb.cell (p:=⟨b,off+i*9+j,none⟩) hB];exact h i hi j hj
theorem Yr.cells{ops:Nat->Xj}(h:Yr w b off len ops){k:Nat}(hk:k<len):w.cell? ⟨b,off+k*9,none⟩=some (.int .i64 (ops k).k)∧w.cell? ⟨b,off+k*9+1,none⟩=some (.int .i64 (ops k).a)∧w.cell? ⟨b,off+k*9+2,none⟩=some (.int .i64 (ops k).b)∧w.cell? ⟨b,off+k*9+3,none⟩=some (.int .i64 (ops k).le)∧w.cell? ⟨b,off+k*9+4,none⟩=some (.int .i64 (ops k).re)∧w.cell? ⟨b,off+k*9+5,none⟩=some (.int .i64 (ops k).ca)∧w.cell? ⟨b,off+k*9+6,none⟩=some (.int .i64 (ops k).bo)∧w.cell? ⟨b,off+k*9+7,none⟩=some (.int .i64 (ops k).he)∧w.cell? ⟨b,off+k*9+8,none⟩=some (.string (ops k).s):=
 ⟨h k hk 0 (by omega),h k hk 1 (by omega),h k hk 2 (by omega),h k hk 3 (by omega),h k hk 4 (by omega),h k hk 5 (by omega),h k hk 6 (by omega),h k hk 7 (by omega),h k hk 8 (by omega)⟩
def tot(len:Nat)(ops:Nat->Xj):Nat->Int
 |0=>len
 |i+1=>tot len ops i+((ops i).s.size:Int)
def hd(l:List UInt8):List UInt8:=l.takeWhile (fun c=>c !=32)
