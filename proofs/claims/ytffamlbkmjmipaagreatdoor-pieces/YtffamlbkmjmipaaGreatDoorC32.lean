import Derived.Test.YtffamlbkmjmipaaGreatDoorC15
import Derived.Test.YtffamlbkmjmipaaGreatDoorC28
set_option maxHeartbeats 8000000
set_option maxRecDepth 100000
namespace Go.Proofs.YtffamlbkmjmipaaGreatDoor
open _root_.Go.Proofs.Tryz
namespace Mc
def ic.fine(o:ic):Bool:=decide (1<=o.le) &&decide (o.le<=20) &&(decide (0<=o.re) &&decide (o.re<=5)) &&(decide (1<=o.ca) &&decide (o.ca<=5)) &&(decide (1<=o.bo) &&decide (o.bo<=8)) &&(decide (0<=o.he) &&decide (o.he<=20))
def St.init(c:ic):St:={c:=c}
theorem Good.start{c:ic}(h:c.fine=true):Good 0 (St.init c):=by unfold ic.fine at h;simp only[a8,decide_eq_true_eq]at h;obtain⟨⟨⟨⟨⟨h1,h2⟩,h3,h4⟩,h5,h6⟩,h7,h8⟩,h9,RI⟩:=h;refine⟨⟨List.nodup_nil,fun _ h=>(List.not_mem_nil h).elim,fun _ h=>(List.not_mem_nil h).elim,List.nodup_nil,List.nodup_nil,List.nodup_nil,List.nodup_nil⟩,⟨⟨⟨h1,h2⟩,⟨h3,h4⟩,⟨h5,h6⟩,⟨h7,h8⟩,⟨h9,RI⟩⟩,⟨Int.le_refl _,Int.le_refl _⟩,fun _ h=>(List.not_mem_nil h).elim,fun _ h=>(List.not_mem_nil h).elim⟩,af _,fun _ h=>(List.not_mem_nil h).elim⟩
end Mc
namespace Mr
open Go.RowKit aD Mc bA
theorem jt{A:aD}{w w1 w2:World}(h:Goes A w1 (fun _=>False) w2)(hb:Below w.heap.size w w1):Goes A w (fun _=>False) w2:=by obtain⟨F',ha,o,n⟩:=h;exact⟨F',ha,((Only.refl _ w).below hb).trans o (fun _ _ h=>h),fun k hk=>(n k hk).imp id (fun h=>au hb.size h)⟩
def uU(o:ic):Value:= .agg #[.int .i64 o.le, .int .i64 o.re, .int .i64 o.ca, .int .i64 o.bo, .int .i64 o.he]
end Mr
namespace Lw
open Go.RowKit aD Mc Mr fX bA
def Q3(x:Int×Bs):List Value:= [.int .i64 x.1, .string ⟨x.2.toArray⟩]
theorem KO(x:Int×Bs):(Q3 x).length=2:=rfl
def Yl(v:Value)(l:List (Int×Bs)):aD:=rowA 51 2 v l.length (flat Q3 l)
theorem PE(v:Value)(l:List (Int×Bs)):dT v l=Yl v (l.map fun x=>(x.1,aP.line x.2)):=by unfold dT Yl;rw[aR];congr 1;unfold flat;rw[List.flatMap_map];rfl
def I64(c:Int):Prop:= -9223372036854775808<=c∧c<=9223372036854775807
def Ho(A:St->aD)(s:St)(w:World)(F:Ft)(e:Ending)(w':World):Prop:= ∃v,e= .returned v∧Goes (aa (dT v s.out) (A s.told)) w F w'
theorem lR{A B:aD}{w w1 w2:World}{F F1:Ft}(_h1:A.holds w1 F1)(o1:Only F w w1)(n1: ∀k,F1 k->F k∨w.heap.size<=k)(h:Goes B w1 F1 w2):Goes B w F w2:=by
 obtain⟨F2,h2,o2,n2⟩:=h;refine⟨F2,h2,o1.trans o2 (fun k hk hf=>(n1 k hf).elim id (fun h=>by omega)),fun k hk=> ?_⟩;rcases n2 k hk with h|h
 ·exact n1 k h
 ·exact .inr (au o1.size h)
structure iC(base:Nat)(bL:World) where
 A:Nat->St->aD
 new: ∀(o:ic) (w:World),base<=w.heap.size->Below base bL w->I64 o.le->I64 o.re->I64 o.ca->I64 o.bo->I64 o.he->
  Calls prog 35 #[uU o] w fun e w'=>
   (o.fine=false∧e= .returned (.tuple #[.pointer none, .int .i64 1])∧Below w.heap.size w w')∨
   (o.fine=true∧ ∃x,e= .returned (.tuple #[.pointer (some ⟨x,0,none⟩), .int .i64 0])∧Goes (A x (St.init o)) w (fun _=>False) w')
 feed: ∀(x:Nat) (c:Int) (b:ByteArray) (n:Nat) (s:St) (w:World) (F:Ft),base<=w.heap.size->Below base bL w->I64 c->b.size<=2097152->Mc.Good n s->n+(cD 10 b.data.toList).length<=1299999->(A x s).holds w F->
  Calls prog 29 #[.pointer (some ⟨x,0,none⟩), .int .i64 c, .string b] w (Ho (A x) (s.feed c b.data.toList) w F)
 tick: ∀(x:Nat) (n:Nat) (s:St) (w:World) (F:Ft),base<=w.heap.size->Below base bL w->Mc.Good n s->n<=1299998->(A x s).holds w F->
  Calls prog 26 #[.pointer (some ⟨x,0,none⟩)] w (Ho (A x) s.tick w F)
 close: ∀(x:Nat) (c:Int) (n:Nat) (s:St) (w:World) (F:Ft),base<=w.heap.size->Below base bL w->I64 c->Mc.Good n s->n<=1299998->(A x s).holds w F->
  Calls prog 27 #[.pointer (some ⟨x,0,none⟩), .int .i64 c] w (Ho (A x) (s.close c) w F)
 look: ∀(x:Nat) (n:Nat) (s:St) (w:World) (F:Ft),base<=w.heap.size->Below base bL w->Mc.Good n s->n<=1299998->(A x s).holds w F->
  Calls prog 25 #[.pointer (some ⟨x,0,none⟩)] w (yQ s w)
 sums: ∀(s:ByteArray) (w:World),base<=w.heap.size->Below base bL w->s.size<=1048576->
  Calls prog 28 #[.string s] w fun e w'=>e= .returned (.string ⟨(aP.line s.data.toList).toArray⟩)∧Below w.heap.size w w'
section
variable{base:Nat}{bL:World}
end
end Lw
namespace Lw
open Go.RowKit aD Mc Mr fX bA
attribute [local go_sem] aP.ae aP.ah
theorem AO{w:World}{G:Ft}{g off cap:Nat}{l:List (Int×Bs)}(h:(Yl (.slice (some ⟨g,off,none⟩) l.length cap) l).holds w G){k:Nat}(hk:k<l.length):w.cell? ⟨g,off+k*2,none⟩=some (.int .i64 (l[k]'hk).1)∧w.cell? ⟨g,off+k*2+1,none⟩=some (.string ⟨(l[k]'hk).2.toArray⟩):=by
 have c: ∀j,j<2->w.cell? ⟨g,off+k*2+j,none⟩=(Q3 (l[k]'hk))[j]?:=fun j hj=>by rw[Nat.add_assoc,aW h (k*2+j) (by omega),js KO l k j hk hj]
 exact⟨c 0 (by omega),c 1 (by omega)⟩
def dX(c:Int)(n:Nat):Nat:=((if c<0 then-(c+1)else c) %n).toNat
theorem dZ(c:Int)(n:Nat)(hn:0<n):dX c n<n:=by unfold dX;generalize(if c<0 then-(c+1)else c)=z;have h0:=Int.emod_nonneg z (b:=(n:Int)) (by omega);have h1:=Int.emod_lt_of_pos z (b:=(n:Int)) (by omega);omega
theorem lz{z:Int}{i:Nat}(h:z=(i:Int)):Ending.returned (.int .i64 z)= .returned (.int .i64 (i:Int)):=by rw[h]
theorem pick_any(c:Int)(n:Nat)(w:World)(hn:0<n)(JI:n<=4194304)(hc: -9223372036854775808<=c∧c<=9223372036854775807):Calls prog 59 #[.int .i64 c, .int .i64 n] w fun e w'=>e= .returned (.int .i64 (dX c n))∧w'=w:=by
 have zQ: ∀z:Int,0<=z %(n:Int):=fun z=>Int.emod_nonneg z (by omega);by_cases h:c<0
 ·have HE:Hid (-((c+1).tmod (n:Int))=(dX c n:Int)):=by
   show _=_;unfold dX;rw[if_pos h,<-Int.neg_tmod,Int.tmod_eq_emod_of_nonneg (by omega)];have:=zQ (-(c+1));omega
  clear zQ;go_enter func59,ntmps59;go_wp2;go_ret;exact⟨lz HE.out,rfl⟩
 ·have HE:Hid (c %(n:Int)=(dX c n:Int)):=by
   show _=_;unfold dX;rw[if_neg h];have:=zQ c;omega
  clear zQ;go_enter func59,ntmps59;go_wp2;go_ret;exact⟨lz HE.out,rfl⟩
end Lw
namespace Lw
open Go.RowKit aD Mc Mr fX bA
variable{w:World}{F:Ft}
theorem aH{A' B:aD}{w':World}{G H:Ft}(hb:B.holds w H)(d: ∀k,G k-> ¬H k)(e: ∀k,F k↔G k∨H k)(hg:Goes A' w G w'):Goes (aa A' B) w F w':=by
 obtain⟨G',ha',o,n⟩:=hg;have aQ:=B.lt hb;refine⟨fun k=>G' k∨H k,⟨G',H,ha',B.keep hb (fun k hk=>o.block k (aQ k hk) (fun hg=>d k hg hk)),fun k hk hh=> ?_,fun k=>Iff.rfl⟩,o.mono (fun k _ hk=>(e k).2 (.inl hk)),fun k hk=> ?_⟩
 ·rcases n k hk with h|h
  ·exact d k h hh
  ·have:=aQ k hh;omega
 ·rcases hk with hk|hk
  ·rcases n k hk with h|h
   ·exact .inl ((e k).2 (.inl h))
   ·exact .inr h
  ·exact .inl ((e k).2 (.inr hk))
theorem gP{A B:aD}{w1:World}{f:FuncId}{args:Array Value}{Q:Ending->World->Prop}{C:Ending->World->Ft->World->Prop}(hg:Goes (aa A B) w F w1)(hc: ∀G,A.holds w1 G->Calls prog f args w1 (fun e w2=>C e w1 G w2))(hq: ∀e w2 G,(∀A',(Goes A' w1 G w2->Goes (aa A' B) w F w2))->C e w1 G w2->Q e w2):Calls prog f args w1 Q:=by obtain⟨F1,⟨G,H,ha,hb,d,e⟩,o,n⟩:=hg;refine(hc G ha).mono ?_;intro en w2 hC;exact hq en w2 G (fun A' h=>lR (A:=aa A B) ⟨G,H,ha,hb,d,e⟩ o n (aH hb d e h)) hC
section
variable{base:Nat}{bL:World}
