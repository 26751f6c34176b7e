import Derived.Test.YtffamlbkmjmipaaGreatDoorB11
import Derived.Test.YtffamlbkmjmipaaGreatDoorB25
set_option maxHeartbeats 8000000
set_option maxRecDepth 100000
namespace Go.Proofs.YtffamlbkmjmipaaGreatDoor
open _root_.Go.Proofs.Tryz
namespace Lw
open Go.RowKit aM Mc Mr fA bJ
variable{w:World}{F:Ft}
theorem aV{A' B:aM}{w':World}{G H:Ft}(hb:B.holds w H)(d: ∀k,G k-> ¬H k)(e: ∀k,F k↔G k∨H k)(hg:Goes A' w G w'):Goes (aa A' B) w F w':=by
 obtain⟨G',ha',o,n⟩:=hg;have ay:=B.lt hb;refine⟨fun k=>G' k∨H k,⟨G',H,ha',B.keep hb (fun k hk=>o.block k (ay k hk) (fun hg=>d k hg hk)),fun k hk hh=> ?_,fun k=>Iff.rfl⟩,o.mono (fun k _ hk=>(e k).2 (.inl hk)),fun k hk=> ?_⟩
 ·rcases n k hk with h|h
  ·exact d k h hh
  ·have:=ay k hh;omega
 ·rcases hk with hk|hk
  ·rcases n k hk with h|h
   ·exact .inl ((e k).2 (.inl h))
   ·exact .inr h
  ·exact .inl ((e k).2 (.inr hk))
theorem mB{A B:aM}{w1:World}{f:FuncId}{args:Array Value}{Q:Ending->World->Prop}{C:Ending->World->Ft->World->Prop}(hg:Goes (aa A B) w F w1)(hc: ∀G,A.holds w1 G->Calls prog f args w1 (fun e w2=>C e w1 G w2))(hq: ∀e w2 G,(∀A',(Goes A' w1 G w2->Goes (aa A' B) w F w2))->C e w1 G w2->Q e w2):Calls prog f args w1 Q:=by obtain⟨F1,⟨G,H,ha,hb,d,e⟩,o,n⟩:=hg;refine(hc G ha).mono ?_;intro en w2 hC;exact hq en w2 G (fun A' h=>A4 (A:=aa A B) ⟨G,H,ha,hb,d,e⟩ o n (aV hb d e h)) hC
def Oj(wp:Nat)(ds:Value)(hs:List (Value×Nat))(n:Nat)(w:World)(G:Ft)(e:Ending)(w':World):Prop:=
 e= .returned (.tuple #[])∧ ∃a' ET,Goes (aa (nc wp ds ET) (aa (rowA 32 1 ET (hs.length+1) (hs.map (·.1)++ [a'])) (sP a' (List.replicate (n+2) (mark hs.length))))) w G w'
theorem KW(wp:Nat)(ds ls:Value)(hs:List (Value×Nat))(a:Value)(l:List (Int×Bs))(w:World)(G:Ft)(h:(zh wp ds ls (hs.map (·.1)) a l).holds w G)(hn:hs.length<=4194304)(hl:l.length<=33554432):Calls prog 65 #[.pointer (some ⟨wp,0,none⟩),a] w (Oj wp ds hs l.length w G):=by refine(Qz wp ds ls (hs.map (·.1)) a l w G h (by rw[bf];exact hn) hl).mono ?_;rintro e w'⟨rfl,a',ET,hg⟩;rw[bf]at hg;exact⟨rfl,a',ET,hg⟩
section
variable{base:Nat}{dz:World}
def yn(P:uO base dz)(aO:List Pr)(hs:List (Value×Nat))(ds:Value)(i:Nat):aM:=aa (rowA 121 2 ds aO.length (flat vA aO)) (aa (all (fun q=>aa (P.A q.x q.s) (aU q.m q.s)) (aO.eraseIdx i)) (all Qu hs.zipIdx))
theorem open_pair(P:uO base dz)(wp:Nat)(aO:List Pr)(hs:List (Value×Nat))(ds ls:Value)(i:Nat)(hi:i<aO.length):jl P wp aO hs ds ls=aa (P.A (aO[i]'hi).x (aO[i]'hi).s) (aa (aU (aO[i]'hi).m (aO[i]'hi).s) (aa (nc wp ds ls) (aa (rowA 32 1 ls hs.length (hs.map (·.1))) (yn P aO hs ds i)))):=by
 unfold jl VN lsA yn;rw[sw (fun q:Pr=>aa (P.A q.x q.s) (aU q.m q.s)) aO i hi]
 ac_rfl
theorem YD(aO:List Pr)(i:Nat)(hi:i<aO.length)(s:St):flat vA (aO.set i ⟨(aO[i]'hi).x,(aO[i]'hi).m,s⟩)=flat vA aO:=by
 unfold flat
 induction aO generalizing i with
 |nil=>simp at hi
 |cons q l ih=>
  match i with
  |0=>rfl
  |i+1=>rw[List.set_cons_succ,List.flatMap_cons,List.flatMap_cons];congr 1;exact ih i (by simpa using hi)
theorem shut_pair(P:uO base dz)(wp:Nat)(aO:List Pr)(hs:List (Value×Nat))(ds ls a:Value)(n:Nat)(i:Nat)(hi:i<aO.length)(s:St):jl P wp (aO.set i ⟨(aO[i]'hi).x,(aO[i]'hi).m,s⟩) (hs++ [(a,n)]) ds ls=aa (aa (nc wp ds ls) (aa (rowA 32 1 ls (hs.length+1) (hs.map (·.1)++ [a])) (sP a (List.replicate n (mark hs.length))))) (aa (P.A (aO[i]'hi).x s) (aa (aU (aO[i]'hi).m s) (yn P aO hs ds i))):=by
 unfold jl VN lsA yn;rw[kM (fun q:Pr=>aa (P.A q.x q.s) (aU q.m q.s)) aO i hi,YD,List.length_set,List.zipIdx_append,all_append,aN,aH];show aa (nc wp ds ls) (aa (aa _ (aa (aa (P.A (aO[i]'hi).x s) (aU (aO[i]'hi).m s)) _)) (aa (rowA 32 1 ls (hs.length+1) (hs.map (·.1)++ [a])) (aa _ (aa (sP a (List.replicate n (mark (0+hs.length)))) emp))))=_;rw[mO,Nat.zero_add]
 ac_rfl
theorem oX(P:uO base dz)(wp:Nat)(aO:List Pr)(hs:List (Value×Nat))(ds ls:Value)(i:Nat)(hi:i<aO.length)(s1:St)(w:World)(F:Ft)(h:(jl P wp aO hs ds ls).holds w F)(hn:hs.length<=4194304)(hl:s1.out.length<=33554432){f1 f2:FuncId}{args1 args2:Array Value}(H1: ∀G,(P.A (aO[i]'hi).x (aO[i]'hi).s).holds w G->Calls prog f1 args1 w (RU (P.A (aO[i]'hi).x) s1 w G))(H2: ∀w' G,(aU (aO[i]'hi).m (aO[i]'hi).s).holds w' G->Calls prog f2 args2 w' (RU (aU (aO[i]'hi).m) s1 w' G)):Calls prog f1 args1 w fun e w1=> ∃v,e= .returned v∧Only F w w1∧Calls prog f2 args2 w1 fun e w2=> ∃v2,e= .returned v2∧Only F w w2∧Calls prog 64 #[v,v2] w2 fun e w3=>e= .returned (.bool true)∧Only F w w3∧Calls prog 65 #[.pointer (some ⟨wp,0,none⟩),v] w3 fun e w4=>e= .returned (.tuple #[])∧ ∃a',Goes (AE P wp (aO.set i ⟨(aO[i]'hi).x,(aO[i]'hi).m,s1.told⟩) (hs++ [(a',s1.out.length+2)])) w F w4:=by have h0:=Goes.refl h;rw[open_pair P wp aO hs ds ls i hi]at h0;refine mB (C:=fun e wa G wb=>RU (P.A (aO[i]'hi).x) s1 wa G e wb) h0 H1 ?_;rintro e w1 G N3⟨v,rfl,hg⟩;have h1:=(N3 _ hg).eq (show _=aa (aU (aO[i]'hi).m (aO[i]'hi).s) (aa (iB v s1.out) (aa (P.A (aO[i]'hi).x s1.told) (aa (nc wp ds ls) (aa (rowA 32 1 ls hs.length (hs.map (·.1))) (yn P aO hs ds i)))))by ac_rfl);refine⟨v,rfl,h1.only,mB (C:=fun e wa G wb=>RU (aU (aO[i]'hi).m) s1 wa G e wb) h1 (H2 w1) ?_⟩;rintro e w2 G2 acV⟨v2,rfl,ld⟩;have h2:=(acV _ ld).eq (show _=aa (iB v s1.out) (aa (iB v2 s1.out) (aa (P.A (aO[i]'hi).x s1.told) (aa (aU (aO[i]'hi).m s1.told) (aa (nc wp ds ls) (aa (rowA 32 1 ls hs.length (hs.map (·.1))) (yn P aO hs ds i))))))by ac_rfl);refine⟨v2,rfl,h2.only, ?_⟩;obtain⟨Ga,Gr,ha,hr,_,_,_⟩:=h2.pieces;obtain⟨Gb,_,hb,_,_,_⟩:=hr;rw[Wo]at ha hb;refine(FN v v2 _ w2 Ga Gb ha hb).mono ?_;rintro e w3⟨rfl,mh⟩;have h3:=((h2.below mh).eq (show _=aa (zh wp ds ls (hs.map (·.1)) v (s1.out.map fun x=>(x.1,aL.line x.2))) (aa (aa (P.A (aO[i]'hi).x s1.told) (aa (aU (aO[i]'hi).m s1.told) (yn P aO hs ds i))) (iB v2 s1.out))by unfold zh;rw[Wo v,bf];ac_rfl));refine⟨rfl,h3.only,mB (C:=fun e wa G wb=>Oj wp ds hs (s1.out.map fun x=>(x.1,aL.line x.2)).length wa G e wb) h3 (fun G3 Kr=>KW wp ds ls hs v _ w3 G3 Kr hn (by rw[bf];exact hl)) ?_⟩;rintro e w4 G4 Ya⟨rfl,a',ET,kI⟩;refine⟨rfl,a', ?_⟩;rw[bf]at kI;have h4:=Ya _ kI;have h5:=(h4.eq (show _=aa (jl P wp (aO.set i ⟨(aO[i]'hi).x,(aO[i]'hi).m,s1.told⟩) (hs++ [(a',s1.out.length+2)]) ds ET) (iB v2 s1.out)by rw[shut_pair];ac_rfl)).drop;exact Goes.ex ds (Goes.ex ET h5)
end
section
variable{base:Nat}{dz:World}
structure Pre(P:uO base dz)(wp n:Nat)(aO:List Pr)(hs:List (Value×Nat))(w:World)(F:Ft):Prop where
 holds:(AE P wp aO hs).holds w F
 good: ∀q∈aO,Mc.Good n q.s
 np:aO.length<=n
 nh:hs.length<=n
 big:base<=w.heap.size
 old:Below base dz w
 far: ∀k,F k->base<=k
variable{P:uO base dz}{wp n n':Nat}{aO Fo:List Pr}{hs V8:List (Value×Nat)}{w w':World}{F:Ft}
theorem QO(hb:base<=w.heap.size)(ho:Below base dz w)(hf: ∀k,F k->base<=k)(o:Only F w w'):Below base dz w':=ho.trans (o.toBelow hf hb)
theorem Pre.below(h:Pre P wp n aO hs w F)(hb:Below w.heap.size w w'):Pre P wp n aO hs w' F:=
 ⟨au h.holds hb,h.good,h.np,h.nh,aw h.big hb.size,h.old.trans (hb.mono h.big),h.far⟩
theorem Pre.up(h:Pre P wp n aO hs w F)(hn:n<=n'):Pre P wp n' aO hs w F:=
 ⟨h.holds,fun q hq=>(h.good q hq).le hn,aw h.np hn,aw h.nh hn,h.big,h.old,h.far⟩
def gu(P:uO base dz)(wp n:Nat)(e:Ending)(w':World):Prop:=e= .returned (.bool true)∧ ∃Fo V8 F',Pre P wp n Fo V8 w' F'
theorem Pre.next(h:Pre P wp n aO hs w F)(hg:Goes (AE P wp Fo V8) w F w')(hn:n+1<=n')(hq: ∀q∈Fo,Mc.Good n' q.s)(h1:Fo.length<=aO.length+1)(h2:V8.length<=hs.length+1): ∃Fo V8 F',Pre P wp n' Fo V8 w' F':=by
 obtain⟨F',dR,o,nn⟩:=hg;refine⟨Fo,V8,F',dR,hq,by have:=h.np;omega,by have:=h.nh;omega,aw h.big o.size,QO h.big h.old h.far o,fun k hk=> ?_⟩;rcases nn k hk with hk|hk
 ·exact h.far k hk
 ·exact aw h.big hk
theorem Pre.same(h:Pre P wp n aO hs w F)(hb:Below w.heap.size w w')(hn:n<=n'):gu P wp n' (.returned (.bool true)) w':=⟨rfl,aO,hs,F,(h.below hb).up hn⟩
theorem ur(h: ∀q∈aO,Mc.Good n q.s)(hn:n<=n'){i:Nat}{y:Pr}(hy:Mc.Good n' y.s): ∀q∈aO.set i y,Mc.Good n' q.s:=by
 intro q hq;rcases List.mem_or_eq_of_mem_set hq with hq|rfl
 ·exact(h q hq).le hn
 ·exact hy
theorem JJ(w:World)(a b:Array Value): ∃w0,((w.alloc (.cells a 73)).alloc (.cells b 121)).drew=w0∧(Below w.heap.size w w0∧w0.heap.size=w.heap.size+2)∧w0.heap[w.heap.size]?=some (.cells a 73 (0,0))∧w0.heap[w.heap.size+1]?=some (.cells b 121 (0,0)):=by
 refine⟨_,rfl,⟨?_,by simp⟩, ?_, ?_⟩
 ·exact(((ah _ _).alloc (ae _) _).alloc (by simp) _).drew
 ·show((w.alloc (.cells a 73)).alloc (.cells b 121)).heap[w.heap.size]?=_;rw[Below.heap_alloc _ _ _ (by simp)];exact heap_alloc_new w _
 ·have h:=heap_alloc_new (w.alloc (.cells a 73)) (.cells b 121);rw[World.size_alloc]at h;exact h
theorem MN{w1:World}{b:Nat}{v0 v1 v2 v3 v4 v5 v6 v7 v8:Value}(h:w1.heap[b]?=some (.cells #[v0,v1,v2,v3,v4,v5,v6,v7,v8] 73 (0,0))):w1.cell? ⟨b,0,none⟩=some v0∧w1.cell? ⟨b,2,none⟩=some v2∧w1.cell? ⟨b,8,none⟩=some v8:=⟨bg h,bg h,bg h⟩
theorem Yj:(prog.info? 121).map (fun i=>(i.zero,i.size,i.bytes))=some (some (.agg #[.pointer none, .pointer none]),2,16):=by kernel_rfl
theorem Pre.open(h:Pre P wp n aO hs w F): ∃ds ls ao cp,ds= .slice ao aO.length cp∧(jl P wp aO hs ds ls).holds w F∧w.heap[wp]?=some (.cells #[ds,ls, .bool false] 78 (0,0))∧F wp∧(∃G,(rowA 121 2 ds aO.length (flat vA aO)).holds w G∧ ∀k,G k->F k)∧(0<aO.length-> ∃g off,ao=some ⟨g,off,none⟩):=by obtain⟨ds,ls,ho⟩:=h.holds;obtain⟨hb,hp⟩:=dC (show(aa (blk wp _) _).holds w F from ho);obtain⟨G1,G2,h1,⟨G3,G4,⟨G5,G6,h5,h6,_,e5⟩,h4,_,e3⟩,_,e1⟩:=ho;obtain⟨ao,cp,e,_,_,bI,_⟩:=bC h5;refine⟨ds,ls,ao,cp,e,⟨G1,G2,h1,⟨G3,G4,⟨G5,G6,h5,h6,‹_›,e5⟩,h4,‹_›,e3⟩,‹_›,e1⟩,hb,hp,⟨G5,h5,fun k hk=>(e1 k).2 (.inr ((e3 k).2 (.inl ((e5 k).2 (.inl hk)))))⟩,fun hp=> ?_⟩;obtain⟨g,off,e,_⟩:=bI hp;exact⟨g,off,e⟩
theorem QY{G:Ft}{g off cap:Nat}(h:(rowA 121 2 (.slice (some ⟨g,off,none⟩) aO.length cap) aO.length (flat vA aO)).holds w G){k:Nat}(hk:k<aO.length):w.cell? ⟨g,off+k*2,none⟩=some (.pointer (some ⟨(aO[k]'hk).x,0,none⟩))∧w.cell? ⟨g,off+k*2+1,none⟩=some (.pointer (some ⟨(aO[k]'hk).m,0,none⟩)):=by
 have c: ∀j,j<2->w.cell? ⟨g,off+k*2+j,none⟩=(vA (aO[k]'hk))[j]?:=fun j hj=>by rw[Nat.add_assoc,bm h (k*2+j) (by omega),kP QX aO k j hk hj]
 exact⟨c 0 (by omega),c 1 (by omega)⟩
theorem rh(hp:Pre P wp n aO hs w F)(hn:n<=1048576){a:Int}(ha:I64 a): ∃ds ls ao cp,w.cell? ⟨wp,0,none⟩=some (.slice ao aO.length cp)∧aO.length<=n∧hs.length<=n∧wp<w.heap.size∧wp≠w.heap.size+1∧w.heap.size≠w.heap.size+1∧Hid ((jl P wp aO hs ds ls).holds w F)∧Hid (∀q,F q->q<w.heap.size)∧(0<aO.length-> ∃g off i,∃dM:i<aO.length,ao=some ⟨g,off,none⟩∧Hid (∀w,Calls prog 59 #[.int .i64 a, .int .i64 aO.length] w fun e w'=>e= .returned (.int .i64 (i:Int))∧w'=w)∧w.cell? ⟨g,off+i*2,none⟩=some (.pointer (some ⟨(aO[i]'dM).x,0,none⟩))∧w.cell? ⟨g,off+i*2+1,none⟩=some (.pointer (some ⟨(aO[i]'dM).m,0,none⟩))∧g<w.heap.size∧g≠w.heap.size+1∧Hid (Mc.Good n (aO[i]'dM).s)):=by obtain⟨ds,ls,ao,cp,hds,az,cP,hFw,⟨G,hG,hGF⟩,bI⟩:=hp.open;have PQ:=hp.np;have Ej:wp<w.heap.size:=(cT.1 cP).1;refine⟨ds,ls,ao,cp,by rw[bg cP,<-hds];rfl,PQ,hp.nh,Ej,by omega,by omega,az,(AE P wp aO hs).lt hp.holds,fun j7=> ?_⟩;obtain⟨g,off,rfl⟩:=bI j7;obtain⟨i,hii⟩: ∃i,wm a aO.length=i:=⟨_,rfl⟩;have dM:i<aO.length:=hii▸QV a aO.length j7;rw[hds]at hG;obtain⟨q0,q1⟩:=QY hG dM;have sG:g<w.heap.size:=(dK hG).1;exact⟨g,off,i,dM,rfl,fun w=>hii▸pick_any a aO.length w j7 (by omega) ha,q0,q1,sG,by omega,hp.good _ (aY dM)⟩
theorem nU(GF:Hid (∀q,F q->q<w.heap.size))(K a b le re ca bo he:Int)(s:ByteArray)(x m:Nat): ∃w0,((w.alloc (.cells #[.int .i64 K, .int .i64 a, .int .i64 b, .int .i64 le, .int .i64 re, .int .i64 ca, .int .i64 bo, .int .i64 he, .string s] 73)).alloc (.cells #[.pointer (some ⟨x,0,none⟩), .pointer (some ⟨m,0,none⟩)] 121)).drew=w0∧Below w.heap.size w w0∧w0.heap.size=w.heap.size+2∧w.heap.size<=w0.heap.size∧w0.cell? ⟨w.heap.size,0,none⟩=some (.int .i64 K)∧w0.cell? ⟨w.heap.size,2,none⟩=some (.int .i64 b)∧w0.cell? ⟨w.heap.size,8,none⟩=some (.string s)∧w0.cell? ⟨w.heap.size+1,0,none⟩=some (.pointer (some ⟨x,0,none⟩))∧w0.cell? ⟨w.heap.size+1,1,none⟩=some (.pointer (some ⟨m,0,none⟩))∧Hid (∀w',Only F w0 w'->w'.cell? ⟨w.heap.size,0,none⟩=some (.int .i64 K)∧w'.cell? ⟨w.heap.size,2,none⟩=some (.int .i64 b)∧w'.cell? ⟨w.heap.size,8,none⟩=some (.string s)∧w'.cell? ⟨w.heap.size+1,0,none⟩=some (.pointer (some ⟨x,0,none⟩))∧w'.cell? ⟨w.heap.size+1,1,none⟩=some (.pointer (some ⟨m,0,none⟩))):=by
 obtain⟨w0,nj,iO,hop,Uc⟩:=JJ w #[.int .i64 K, .int .i64 a, .int .i64 b, .int .i64 le, .int .i64 re, .int .i64 ca, .int .i64 bo, .int .i64 he, .string s] #[.pointer (some ⟨x,0,none⟩), .pointer (some ⟨m,0,none⟩)];have IE:=iO.2;obtain⟨o0,o2,o8⟩:=MN hop;have r0:w0.cell? ⟨w.heap.size+1,0,none⟩=some (.pointer (some ⟨x,0,none⟩)):=bg Uc;have r1:w0.cell? ⟨w.heap.size+1,1,none⟩=some (.pointer (some ⟨m,0,none⟩)):=bg Uc;refine⟨w0,nj,iO.1,IE,iO.1.size,o0,o2,o8,r0,r1,fun w' o=> ?_⟩;have h1: ¬F w.heap.size:=fun h=>by have:=GF.out _ h;omega
 have h2: ¬F (w.heap.size+1):=fun h=>by have:=GF.out _ h;omega
 exact⟨by rw[o.cell (p:=⟨w.heap.size,0,none⟩) (show w.heap.size<_ by omega) h1];exact o0,by rw[o.cell (p:=⟨w.heap.size,2,none⟩) (show w.heap.size<_ by omega) h1];exact o2,by rw[o.cell (p:=⟨w.heap.size,8,none⟩) (show w.heap.size<_ by omega) h1];exact o8,by rw[o.cell (p:=⟨w.heap.size+1,0,none⟩) (show w.heap.size+1<_ by omega) h2];exact r0,by rw[o.cell (p:=⟨w.heap.size+1,1,none⟩) (show w.heap.size+1<_ by omega) h2];exact r1⟩
