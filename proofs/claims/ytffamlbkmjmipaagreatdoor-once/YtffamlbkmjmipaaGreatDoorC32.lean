import Derived.Test.YtffamlbkmjmipaaGreatDoorC15
import Derived.Test.YtffamlbkmjmipaaGreatDoorC28
set_option maxHeartbeats 8000000
set_option maxRecDepth 100000
namespace Go.Proofs.YtffamlbkmjmipaaGreatDoor
open _root_.Go.Proofs.Tryz
namespace Mc
def pz.fine(o:pz):Bool:=decide (1<=o.le) &&decide (o.le<=20) &&(decide (0<=o.re) &&decide (o.re<=5)) &&(decide (1<=o.ca) &&decide (o.ca<=5)) &&(decide (1<=o.bo) &&decide (o.bo<=8)) &&(decide (0<=o.he) &&decide (o.he<=20))
def St.init(c:pz):St:={c:=c}
theorem Good.start{c:pz}(h:c.fine=true):Good 0 (St.init c):=by unfold pz.fine at h;simp only[bm,decide_eq_true_eq]at h;obtain⟨⟨⟨⟨⟨h1,h2⟩,h3,h4⟩,h5,h6⟩,h7,h8⟩,h9,sZ⟩:=h;refine⟨⟨List.nodup_nil,fun _ h=>(List.not_mem_nil h).elim,fun _ h=>(List.not_mem_nil h).elim,List.nodup_nil,List.nodup_nil,List.nodup_nil,List.nodup_nil⟩,⟨⟨⟨h1,h2⟩,⟨h3,h4⟩,⟨h5,h6⟩,⟨h7,h8⟩,⟨h9,sZ⟩⟩,⟨Int.le_refl _,Int.le_refl _⟩,fun _ h=>(List.not_mem_nil h).elim,fun _ h=>(List.not_mem_nil h).elim⟩,af _,fun _ h=>(List.not_mem_nil h).elim⟩
end Mc
namespace Mr
open Go.RowKit aJ Mc bG
theorem CW{A:aJ}{w w1 w2:World}(h:Goes A w1 (fun _=>False) w2)(hb:Below w.heap.size w w1):Goes A w (fun _=>False) w2:=by obtain⟨F',ha,o,n⟩:=h;exact⟨F',ha,((Only.refl _ w).below hb).trans o (fun _ _ h=>h),fun k hk=>(n k hk).imp id (fun h=>ar hb.size h)⟩
def AU(o:pz):Value:= .agg #[.int .i64 o.le, .int .i64 o.re, .int .i64 o.ca, .int .i64 o.bo, .int .i64 o.he]
end Mr
namespace Lw
open Go.RowKit aJ Mc Mr ud bG
def WJ(x:Int×Bs):List Value:= [.int .i64 x.1, .string ⟨x.2.toArray⟩]
theorem Qr(x:Int×Bs):(WJ x).length=2:=rfl
def orA(v:Value)(l:List (Int×Bs)):aJ:=rowA 51 2 v l.length (flat WJ l)
theorem UW(v:Value)(l:List (Int×Bs)):gZ v l=orA v (l.map fun x=>(x.1,aG.line x.2)):=by unfold gZ orA;rw[aF];congr 1;unfold flat;rw[List.flatMap_map];rfl
def I64(c:Int):Prop:= -9223372036854775808<=c∧c<=9223372036854775807
def LZ(A:St->aJ)(s:St)(w:World)(F:Ft)(e:Ending)(w':World):Prop:= ∃v,e= .returned v∧Goes (aa (gZ v s.out) (A s.told)) w F w'
theorem kR{A B:aJ}{w w1 w2:World}{F F1:Ft}(_h1:A.holds w1 F1)(o1:Only F w w1)(n1: ∀k,F1 k->F k∨w.heap.size<=k)(h:Goes B w1 F1 w2):Goes B w F w2:=by
 obtain⟨F2,h2,o2,n2⟩:=h;refine⟨F2,h2,o1.trans o2 (fun k hk hf=>(n1 k hf).elim id (fun h=>by omega)),fun k hk=> ?_⟩;rcases n2 k hk with h|h
 ·exact n1 k h
 ·exact .inr (ar o1.size h)
structure oc(base:Nat)(cg:World) where
 A:Nat->St->aJ
 new: ∀(o:pz) (w:World),base<=w.heap.size->Below base cg w->I64 o.le->I64 o.re->I64 o.ca->I64 o.bo->I64 o.he->
  Calls prog 35 #[AU o] w fun e w'=>
   (o.fine=false∧e= .returned (.tuple #[.pointer none, .int .i64 1])∧Below w.heap.size w w')∨
   (o.fine=true∧ ∃x,e= .returned (.tuple #[.pointer (some ⟨x,0,none⟩), .int .i64 0])∧Goes (A x (St.init o)) w (fun _=>False) w')
 feed: ∀(x:Nat) (c:Int) (b:ByteArray) (n:Nat) (s:St) (w:World) (F:Ft),base<=w.heap.size->Below base cg w->I64 c->b.size<=2000000000000000->Mc.Good n s->n+(bB 10 b.data.toList).length<=1299999->(A x s).holds w F->
  Calls prog 29 #[.pointer (some ⟨x,0,none⟩), .int .i64 c, .string b] w (LZ (A x) (s.feed c b.data.toList) w F)
 tick: ∀(x:Nat) (n:Nat) (s:St) (w:World) (F:Ft),base<=w.heap.size->Below base cg w->Mc.Good n s->n<=1299998->(A x s).holds w F->
  Calls prog 26 #[.pointer (some ⟨x,0,none⟩)] w (LZ (A x) s.tick w F)
 close: ∀(x:Nat) (c:Int) (n:Nat) (s:St) (w:World) (F:Ft),base<=w.heap.size->Below base cg w->I64 c->Mc.Good n s->n<=1299998->(A x s).holds w F->
  Calls prog 27 #[.pointer (some ⟨x,0,none⟩), .int .i64 c] w (LZ (A x) (s.close c) w F)
 look: ∀(x:Nat) (n:Nat) (s:St) (w:World) (F:Ft),base<=w.heap.size->Below base cg w->Mc.Good n s->n<=1299998->(A x s).holds w F->
  Calls prog 25 #[.pointer (some ⟨x,0,none⟩)] w (Cc s w)
 sums: ∀(s:ByteArray) (w:World),base<=w.heap.size->Below base cg w->s.size<=1000000000000000->
  Calls prog 28 #[.string s] w fun e w'=>e= .returned (.string ⟨(aG.line s.data.toList).toArray⟩)∧Below w.heap.size w w'
section
variable{base:Nat}{cg:World}
end
end Lw
namespace Lw
open Go.RowKit aJ Mc Mr ud bG
attribute [local go_sem] aG.ae aG.ag
theorem DU{w:World}{G:Ft}{g off cap:Nat}{l:List (Int×Bs)}(h:(orA (.slice (some ⟨g,off,none⟩) l.length cap) l).holds w G){k:Nat}(hk:k<l.length):w.cell? ⟨g,off+k*2,none⟩=some (.int .i64 (l[k]'hk).1)∧w.cell? ⟨g,off+k*2+1,none⟩=some (.string ⟨(l[k]'hk).2.toArray⟩):=by
 have c: ∀j,j<2->w.cell? ⟨g,off+k*2+j,none⟩=(WJ (l[k]'hk))[j]?:=fun j hj=>by rw[Nat.add_assoc,bf h (k*2+j) (by omega),vr Qr l k j hk hj]
 exact⟨c 0 (by omega),c 1 (by omega)⟩
end Lw
namespace Lw
open Go.RowKit aJ Mc Mr ud bG
variable{w:World}{F:Ft}
theorem aO{A' B:aJ}{w':World}{G H:Ft}(hb:B.holds w H)(d: ∀k,G k-> ¬H k)(e: ∀k,F k↔G k∨H k)(hg:Goes A' w G w'):Goes (aa A' B) w F w':=by
 obtain⟨G',ha',o,n⟩:=hg;have aN:=B.lt hb;refine⟨fun k=>G' k∨H k,⟨G',H,ha',B.keep hb (fun k hk=>o.block k (aN k hk) (fun hg=>d k hg hk)),fun k hk hh=> ?_,fun k=>Iff.rfl⟩,o.mono (fun k _ hk=>(e k).2 (.inl hk)),fun k hk=> ?_⟩
 ·rcases n k hk with h|h
  ·exact d k h hh
  ·have:=aN k hh;omega
 ·rcases hk with hk|hk
  ·rcases n k hk with h|h
   ·exact .inl ((e k).2 (.inl h))
   ·exact .inr h
  ·exact .inl ((e k).2 (.inr hk))
theorem km{A B:aJ}{w1:World}{f:FuncId}{args:Array Value}{Q:Ending->World->Prop}{C:Ending->World->Ft->World->Prop}(hg:Goes (aa A B) w F w1)(hc: ∀G,A.holds w1 G->Calls prog f args w1 (fun e w2=>C e w1 G w2))(hq: ∀e w2 G,(∀A',(Goes A' w1 G w2->Goes (aa A' B) w F w2))->C e w1 G w2->Q e w2):Calls prog f args w1 Q:=by obtain⟨F1,⟨G,H,ha,hb,d,e⟩,o,n⟩:=hg;refine(hc G ha).mono ?_;intro en w2 hC;exact hq en w2 G (fun A' h=>kR (A:=aa A B) ⟨G,H,ha,hb,d,e⟩ o n (aO hb d e h)) hC
section
variable{base:Nat}{cg:World}
