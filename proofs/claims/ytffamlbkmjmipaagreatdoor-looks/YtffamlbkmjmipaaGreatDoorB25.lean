import Derived.Test.YtffamlbkmjmipaaGreatDoorB22
set_option maxHeartbeats 8000000
set_option maxRecDepth 100000
namespace Go.Proofs.YtffamlbkmjmipaaGreatDoor
open _root_.Go.Proofs.Tryz
namespace Mc
def uF.fine(o:uF):Bool:=decide (1<=o.le) &&decide (o.le<=20) &&(decide (0<=o.re) &&decide (o.re<=5)) &&(decide (1<=o.ca) &&decide (o.ca<=5)) &&(decide (1<=o.bo) &&decide (o.bo<=8)) &&(decide (0<=o.he) &&decide (o.he<=20))
def St.init(c:uF):St:={c:=c}
theorem Good.start{c:uF}(h:c.fine=true):Good 0 (St.init c):=by unfold uF.fine at h;simp only[bZ,decide_eq_true_eq]at h;obtain⟨⟨⟨⟨⟨h1,h2⟩,h3,h4⟩,h5,h6⟩,h7,h8⟩,h9,h10⟩:=h;refine⟨⟨List.nodup_nil,fun _ h=>(List.not_mem_nil h).elim,fun _ h=>(List.not_mem_nil h).elim,List.nodup_nil,List.nodup_nil,List.nodup_nil,List.nodup_nil⟩,⟨⟨⟨h1,h2⟩,⟨h3,h4⟩,⟨h5,h6⟩,⟨h7,h8⟩,⟨h9,h10⟩⟩,⟨Int.le_refl _,Int.le_refl _⟩,fun _ h=>(List.not_mem_nil h).elim,fun _ h=>(List.not_mem_nil h).elim⟩,ae _,fun _ h=>(List.not_mem_nil h).elim⟩
end Mc
namespace Mr
open Go.RowKit aM Mc bJ
theorem jg{A B:aM}{w:World}(ha:A.holds w (fun _=>False))(hb:B.holds w (fun _=>False)):(aa A B).holds w (fun _=>False):=⟨_,_,ha,hb,fun _ h=>h.elim,fun _=>⟨fun h=>h.elim,fun h=>h.elim id id⟩⟩
theorem DX{A:aM}{w w1 w2:World}(h:Goes A w1 (fun _=>False) w2)(hb:Below w.heap.size w w1):Goes A w (fun _=>False) w2:=by obtain⟨F',ha,o,n⟩:=h;exact⟨F',ha,((Only.refl _ w).below hb).trans o (fun _ _ h=>h),fun k hk=>(n k hk).imp id (fun h=>aw hb.size h)⟩
def Ds(o:uF):Value:= .agg #[.int .i64 o.le, .int .i64 o.re, .int .i64 o.ca, .int .i64 o.bo, .int .i64 o.he]
theorem Uz(o:uF)(w:World):Goes (aU w.heap.size (St.init o)) w (fun _=>False) (w.alloc (.cells #[.int .i64 o.le, .int .i64 o.re, .int .i64 o.ca, .int .i64 o.bo, .int .i64 o.he, .int .i64 0, .slice none 0 0, .slice none 0 0, .slice none 0 0, .slice none 0 0, .slice none 0 0, .slice none 0 0] 162)):=by have hn: ∀(e:TypeId) (z:Nat),(rowA e z (.slice none 0 0) 0 []).holds w (fun _=>False):=fun e z=>dS _ _ _ (fun _ h=>h);have Af:(rX (.slice none 0 0) []).holds w (fun _=>False):=jg (hn _ _) (fun _ h=>h);have h1:=Goes.alloc (Goes.refl (jg (A:=dO (.slice none 0 0) []) (hn _ _) (jg (A:=mz (.slice none 0 0) []) (hn _ _) (jg Af (jg (A:=inA (.slice none 0 0) []) (hn _ _) (jg (A:=lz (.slice none 0 0) []) (hn _ _) (B:=iB (.slice none 0 0) []) (hn _ _))))))) (.cells #[.int .i64 o.le, .int .i64 o.re, .int .i64 o.ca, .int .i64 o.bo, .int .i64 o.he, .int .i64 0, .slice none 0 0, .slice none 0 0, .slice none 0 0, .slice none 0 0, .slice none 0 0, .slice none 0 0] 162);exact cI (s:=St.init o) (m:=⟨.slice none 0 0, .slice none 0 0, .slice none 0 0, .slice none 0 0, .slice none 0 0, .slice none 0 0⟩) (g:= []) rfl h1
theorem ki(n a b:Int)(w:World):Calls prog 97 #[.int .i64 n, .int .i64 a, .int .i64 b] w fun e w'=>e= .returned (.bool (decide (a<=n) &&decide (n<=b)))∧w'=w:=by
 by_cases h1:a<=n
 ·by_cases h2:n<=b
  ·go_enter func97,ntmps97;go_wp2;go_ret;exact⟨by simp[h1,h2],rfl⟩
  ·go_enter func97,ntmps97;go_wp2;go_ret;exact⟨by simp;omega,rfl⟩
 ·go_enter func97,ntmps97;go_wp2;go_ret;exact⟨by simp;omega,rfl⟩
def WX(o:uF)(w:World)(e:Ending)(w':World):Prop:=
 (o.fine=false∧e= .returned (.tuple #[.pointer none, .bool false])∧Below w.heap.size w w')∨
 (o.fine=true∧ ∃p,e= .returned (.tuple #[.pointer (some ⟨p,0,none⟩), .bool true])∧Goes (aU p (St.init o)) w (fun _=>False) w')
theorem new_any(o:uF)(w:World):Calls prog 57 #[Ds o] w (WX o w):=by
 obtain⟨le,re,ca,bo,he⟩:=o;have h1:=fun w=>ki le 1 20 w;have h2:=fun w=>ki re 0 5 w;have h3:=fun w=>ki ca 1 5 w;have h4:=fun w=>ki bo 1 8 w;have h5:=fun w=>ki he 0 20 w;have Ah:uF.fine ⟨le,re,ca,bo,he⟩=((((((decide (1<=le) &&decide (le<=20))) &&(decide (0<=re) &&decide (re<=5))) &&(decide (1<=ca) &&decide (ca<=5))) &&(decide (1<=bo) &&decide (bo<=8))) &&(decide (0<=he) &&decide (he<=20))):=rfl;generalize(decide (1<=le) &&decide (le<=20))=b1 at*;generalize(decide (0<=re) &&decide (re<=5))=b2 at*;generalize(decide (1<=ca) &&decide (ca<=5))=b3 at*;generalize(decide (1<=bo) &&decide (bo<=8))=b4 at*;generalize(decide (0<=he) &&decide (he<=20))=b5 at*;have GI:Hid (uF.fine ⟨le,re,ca,bo,he⟩=((((b1 &&b2) &&b3) &&b4) &&b5)):=Ah;have H1:Hid (∀w,Calls prog 97 #[.int .i64 le, .int .i64 1, .int .i64 20] w fun e w'=>e= .returned (.bool b1)∧w'=w):=h1;have H2:Hid (∀w,Calls prog 97 #[.int .i64 re, .int .i64 0, .int .i64 5] w fun e w'=>e= .returned (.bool b2)∧w'=w):=h2;have H3:Hid (∀w,Calls prog 97 #[.int .i64 ca, .int .i64 1, .int .i64 5] w fun e w'=>e= .returned (.bool b3)∧w'=w):=h3;have H4:Hid (∀w,Calls prog 97 #[.int .i64 bo, .int .i64 1, .int .i64 8] w fun e w'=>e= .returned (.bool b4)∧w'=w):=h4;have H5:Hid (∀w,Calls prog 97 #[.int .i64 he, .int .i64 0, .int .i64 20] w fun e w'=>e= .returned (.bool b5)∧w'=w):=h5;clear h1 h2 h3 h4 h5 Ah;simp only[Ds];have jr:Hid (∀o',uF.fine ⟨le,re,ca,bo,he⟩=false->WX ⟨le,re,ca,bo,he⟩ w (.returned (.tuple #[.pointer none, .bool false])) (w.alloc o')):=fun o' h=>Or.inl ⟨h,rfl,(ah _ _).alloc (ae _) _⟩;cases b1
 ·go_enter func57,ntmps57;go_wp2_with fail;refine(H1.out _).mono ?_;rintro e wq⟨rfl,rfl⟩;go_wp2
  go_ret2
  exact jr.out _ (GI.out.trans (by simp))
 cases b2
 ·go_enter func57,ntmps57;go_wp2_with fail;refine(H1.out _).mono ?_;rintro e wq⟨rfl,rfl⟩;go_wp2_with fail;refine(H2.out _).mono ?_;rintro e wq⟨rfl,rfl⟩;go_wp2
  go_ret2
  exact jr.out _ (GI.out.trans (by simp))
 cases b3
 ·go_enter func57,ntmps57;go_wp2_with fail;refine(H1.out _).mono ?_;rintro e wq⟨rfl,rfl⟩;go_wp2_with fail;refine(H2.out _).mono ?_;rintro e wq⟨rfl,rfl⟩;go_wp2_with fail;refine(H3.out _).mono ?_;rintro e wq⟨rfl,rfl⟩;go_wp2
  go_ret2
  exact jr.out _ (GI.out.trans (by simp))
 cases b4
 ·go_enter func57,ntmps57;go_wp2_with fail;refine(H1.out _).mono ?_;rintro e wq⟨rfl,rfl⟩;go_wp2_with fail;refine(H2.out _).mono ?_;rintro e wq⟨rfl,rfl⟩;go_wp2_with fail;refine(H3.out _).mono ?_;rintro e wq⟨rfl,rfl⟩;go_wp2_with fail;refine(H4.out _).mono ?_;rintro e wq⟨rfl,rfl⟩;go_wp2
  go_ret2
  exact jr.out _ (GI.out.trans (by simp))
 cases b5
 ·go_enter func57,ntmps57;go_wp2_with fail;refine(H1.out _).mono ?_;rintro e wq⟨rfl,rfl⟩;go_wp2_with fail;refine(H2.out _).mono ?_;rintro e wq⟨rfl,rfl⟩;go_wp2_with fail;refine(H3.out _).mono ?_;rintro e wq⟨rfl,rfl⟩;go_wp2_with fail;refine(H4.out _).mono ?_;rintro e wq⟨rfl,rfl⟩;go_wp2_with fail;refine(H5.out _).mono ?_;rintro e wq⟨rfl,rfl⟩;go_wp2
  go_ret2
  exact jr.out _ (GI.out.trans (by simp))
 go_enter func57,ntmps57;go_wp2_with fail;refine(H1.out _).mono ?_;rintro e wq⟨rfl,rfl⟩;go_wp2_with fail;refine(H2.out _).mono ?_;rintro e wq⟨rfl,rfl⟩;go_wp2_with fail;refine(H3.out _).mono ?_;rintro e wq⟨rfl,rfl⟩;go_wp2_with fail;refine(H4.out _).mono ?_;rintro e wq⟨rfl,rfl⟩;go_wp2_with fail;refine(H5.out _).mono ?_;rintro e wq⟨rfl,rfl⟩;go_wp2
 go_ret2
 have hg:=DX (Uz ⟨le,re,ca,bo,he⟩ (w.alloc (.cells #[.int .i64 le, .int .i64 re, .int .i64 ca, .int .i64 bo, .int .i64 he] 30))) ((ah _ _).alloc (ae _) _);rw[show(w.alloc (.cells #[.int .i64 le, .int .i64 re, .int .i64 ca, .int .i64 bo, .int .i64 he] 30)).heap.size=w.heap.size+1 by simp]at hg;exact Or.inr ⟨GI.out,_,rfl,hg⟩
end Mr
namespace Lw
open Go.RowKit aM Mc Mr fA bJ
def Fc(x:Int×Bs):List Value:= [.int .i64 x.1, .string ⟨x.2.toArray⟩]
theorem zm(x:Int×Bs):(Fc x).length=2:=rfl
def sP(v:Value)(l:List (Int×Bs)):aM:=rowA 51 2 v l.length (flat Fc l)
theorem Wo(v:Value)(l:List (Int×Bs)):iB v l=sP v (l.map fun x=>(x.1,aL.line x.2)):=by unfold iB sP;rw[bf];congr 1;unfold flat;rw[List.flatMap_map];rfl
def I64(c:Int):Prop:= -9223372036854775808<=c∧c<=9223372036854775807
def RU(A:St->aM)(s:St)(w:World)(F:Ft)(e:Ending)(w':World):Prop:= ∃v,e= .returned v∧Goes (aa (iB v s.out) (A s.told)) w F w'
theorem A4{A B:aM}{w w1 w2:World}{F F1:Ft}(_h1:A.holds w1 F1)(o1:Only F w w1)(n1: ∀k,F1 k->F k∨w.heap.size<=k)(h:Goes B w1 F1 w2):Goes B w F w2:=by
 obtain⟨F2,h2,o2,n2⟩:=h;refine⟨F2,h2,o1.trans o2 (fun k hk hf=>(n1 k hf).elim id (fun h=>by omega)),fun k hk=> ?_⟩;rcases n2 k hk with h|h
 ·exact n1 k h
 ·exact .inr (aw o1.size h)
structure uO(base:Nat)(dz:World) where
 A:Nat->St->aM
 new: ∀(o:uF) (w:World),base<=w.heap.size->Below base dz w->I64 o.le->I64 o.re->I64 o.ca->I64 o.bo->I64 o.he->
  Calls prog 35 #[Ds o] w fun e w'=>
   (o.fine=false∧e= .returned (.tuple #[.pointer none, .int .i64 1])∧Below w.heap.size w w')∨
   (o.fine=true∧ ∃x,e= .returned (.tuple #[.pointer (some ⟨x,0,none⟩), .int .i64 0])∧Goes (A x (St.init o)) w (fun _=>False) w')
 feed: ∀(x:Nat) (c:Int) (b:ByteArray) (n:Nat) (s:St) (w:World) (F:Ft),base<=w.heap.size->Below base dz w->I64 c->b.size<=2097152->Mc.Good n s->n+(bW 10 b.data.toList).length<=1299999->(A x s).holds w F->
  Calls prog 29 #[.pointer (some ⟨x,0,none⟩), .int .i64 c, .string b] w (RU (A x) (s.feed c b.data.toList) w F)
 tick: ∀(x:Nat) (n:Nat) (s:St) (w:World) (F:Ft),base<=w.heap.size->Below base dz w->Mc.Good n s->n<=1299998->(A x s).holds w F->
  Calls prog 26 #[.pointer (some ⟨x,0,none⟩)] w (RU (A x) s.tick w F)
 close: ∀(x:Nat) (c:Int) (n:Nat) (s:St) (w:World) (F:Ft),base<=w.heap.size->Below base dz w->I64 c->Mc.Good n s->n<=1299998->(A x s).holds w F->
  Calls prog 27 #[.pointer (some ⟨x,0,none⟩), .int .i64 c] w (RU (A x) (s.close c) w F)
 look: ∀(x:Nat) (n:Nat) (s:St) (w:World) (F:Ft),base<=w.heap.size->Below base dz w->Mc.Good n s->n<=1299998->(A x s).holds w F->
  Calls prog 25 #[.pointer (some ⟨x,0,none⟩)] w (pN s w)
 sums: ∀(s:ByteArray) (w:World),base<=w.heap.size->Below base dz w->s.size<=1048576->
  Calls prog 28 #[.string s] w fun e w'=>e= .returned (.string ⟨(aL.line s.data.toList).toArray⟩)∧Below w.heap.size w w'
structure Pr where
 x:Nat
 m:Nat
 s:St
def vA(q:Pr):List Value:= [.pointer (some ⟨q.x,0,none⟩), .pointer (some ⟨q.m,0,none⟩)]
theorem QX(q:Pr):(vA q).length=2:=rfl
def mark(k:Nat):Int×Bs:=(-1-(k:Int), [109,105,110,101])
def Qu(y:(Value×Nat)×Nat):aM:=sP y.1.1 (List.replicate y.1.2 (mark y.2))
section
variable{base:Nat}{dz:World}
def VN(P:uO base dz)(ds:Value)(aO:List Pr):aM:=aa (rowA 121 2 ds aO.length (flat vA aO)) (all (fun q=>aa (P.A q.x q.s) (aU q.m q.s)) aO)
def lsA(ls:Value)(hs:List (Value×Nat)):aM:=aa (rowA 32 1 ls hs.length (hs.map (·.1))) (all Qu hs.zipIdx)
def nc(wp:Nat)(ds ls:Value):aM:=blk wp (.cells #[ds,ls, .bool false] 78 (0,0))
def jl(P:uO base dz)(wp:Nat)(aO:List Pr)(hs:List (Value×Nat))(ds ls:Value):aM:=aa (nc wp ds ls) (aa (VN P ds aO) (lsA ls hs))
def AE(P:uO base dz)(wp:Nat)(aO:List Pr)(hs:List (Value×Nat)):aM:=ex fun ds=>ex fun ls=>jl P wp aO hs ds ls
end
end Lw
namespace Lw
open Go.RowKit aM Mc Mr fA bJ
attribute [local go_sem] aL.ag aL.ar
variable{w:World}{G:Ft}{g off cap k:Nat}{l:List (Int×Bs)}
theorem Yi:(prog.info? 32).map (fun i=>(i.zero,i.size,i.bytes))=some (some (.slice none 0 0),1,24):=by kernel_rfl
theorem ue(h:(sP (.slice (some ⟨g,off,none⟩) l.length cap) l).holds w G)(hk:k<l.length):w.cell? ⟨g,off+k*2,none⟩=some (.int .i64 (l[k]'hk).1)∧w.cell? ⟨g,off+k*2+1,none⟩=some (.string ⟨(l[k]'hk).2.toArray⟩):=by
 have c: ∀j,j<2->w.cell? ⟨g,off+k*2+j,none⟩=(Fc (l[k]'hk))[j]?:=fun j hj=>by rw[Nat.add_assoc,bm h (k*2+j) (by omega),kP zm l k j hk hj]
 exact⟨c 0 (by omega),c 1 (by omega)⟩
theorem YC{n:Nat}(hn:l.length=n)(h:(sP (.slice (some ⟨g,off,none⟩) n cap) l).holds w G)(hk:k<l.length)(y:Int×Bs):Goes (sP (.slice (some ⟨g,off,none⟩) n cap) (l.set k y)) w G ((w.setCell ⟨g,off+k*2,none⟩ (.int .i64 y.1)).setCell ⟨g,off+k*2+1,none⟩ (.string ⟨y.2.toArray⟩)):=by subst hn;have h1:=cu h (k*2) (.int .i64 y.1) (by omega);have e0:(flat Fc l).set (k*2) (.int .i64 y.1)=flat Fc (l.set k (y.1,(l[k]'hk).2)):=j4 zm l k 0 hk (by omega) (.int .i64 y.1) (y.1,(l[k]'hk).2) rfl;rw[e0]at h1;obtain⟨G1,lH,o1,n1⟩:=h1;have h2:=cu lH (k*2+1) (.string ⟨y.2.toArray⟩) (by omega);rw[j4 zm (l.set k (y.1,(l[k]'hk).2)) k 1 (by rw[List.length_set];exact hk) (by omega) (.string ⟨y.2.toArray⟩) y (by simp[Fc]),List.set_set,<-Nat.add_assoc]at h2;have h3:=A4 lH o1 n1 h2;unfold sP;rw[List.length_set];exact h3
def mix(l:List (Int×Bs))(m:Int×Bs)(k:Nat):List (Int×Bs):=List.replicate k m++l.drop k
theorem UD(l:List (Int×Bs))(m:Int×Bs)(hk:k<=l.length):(mix l m k).length=l.length:=by simp[mix];omega
theorem UE(l:List (Int×Bs))(m:Int×Bs)(hk:k<l.length):(mix l m k).set k m=mix l m (k+1):=by unfold mix;rw[List.set_append_right _ _ (by simp),List.length_replicate,Nat.sub_self,List.drop_eq_getElem_cons hk,List.set_cons_zero,List.replicate_succ',List.append_assoc];rfl
theorem UC(l:List (Int×Bs))(m:Int×Bs):mix l m l.length=List.replicate l.length m:=by simp[mix]
def zh(wp:Nat)(ds ls:Value)(vs:List Value)(a:Value)(l:List (Int×Bs)):aM:=aa (nc wp ds ls) (aa (rowA 32 1 ls vs.length vs) (sP a l))
theorem Qz(wp:Nat)(ds ls:Value)(vs:List Value)(a:Value)(l:List (Int×Bs))(w:World)(F:Ft)(h:(zh wp ds ls vs a l).holds w F)(hn:vs.length<=4194304)(hl:l.length<=33554432):Calls prog 65 #[.pointer (some ⟨wp,0,none⟩),a] w fun e w'=>e= .returned (.tuple #[])∧ ∃a' ET,Goes (aa (nc wp ds ET) (aa (rowA 32 1 ET (vs.length+1) (vs++ [a'])) (sP a' (List.replicate (l.length+2) (mark vs.length))))) w F w':=by
 obtain⟨i0,hi,gI,dN,fS⟩:=info_parts P3;obtain⟨j0,hj,PY,PZ,P0⟩:=info_parts Yi;obtain⟨cP,_⟩:=dC (show(aa (blk wp _) _).holds w F from h);have c1:w.cell? ⟨wp,1,none⟩=some ls:=bg cP;have dc:wp<w.heap.size:=(cT.1 cP).1;obtain⟨lo,cl,hle,_,_⟩: ∃lo cl,ls= .slice lo vs.length cl∧vs.length<=cl∧True:=by obtain⟨_,_,_,⟨_,_,h2,_⟩,_⟩:=h;obtain⟨ao,cap,e,hc,_⟩:=bC h2;exact⟨ao,cap,e,hc,trivial⟩
 obtain⟨ao,ca,wO,bI⟩: ∃ao ca,a= .slice ao l.length ca∧(0<l.length-> ∃g off,ao=some ⟨g,off,none⟩):=by obtain⟨_,_,_,⟨_,_,_,h3,_⟩,_⟩:=h;obtain⟨ao,cap,e,_,_,h4,_⟩:=bC h3;exact⟨ao,cap,e,fun hp=>by obtain⟨g,off,e,_⟩:=h4 hp;exact⟨g,off,e⟩⟩
 subst wO hle;have fT:=hide bI;have HH:=hide h;clear h cP bI;go_enter func65,ntmps65;go_wp2;go_loopw [16] (fun i wr=> ∃k:Nat,k<=l.length∧i= .int .i64 k∧Hid (Goes (aa (blk w.heap.size (.cells #[.int .i64 (-1- ↑vs.length), .string ⟨#[109,105,110,101]⟩] 51 (0,0))) (zh wp ds (.slice lo vs.length cl) vs (.slice ao l.length ca) (mix l (mark vs.length) k))) w F wr)) (fun i _=>l.length-(intOf i).toNat)
 case atStart=>exact⟨0,aJ _,rfl,(Goes.refl HH.out).alloc _⟩
 case round=>
  obtain⟨k,hk,rfl,HI⟩:=hrel;obtain⟨FI,hFI⟩:=HI.out.facts;have hmb:=(dC hFI).1;have m1:wr.cell? ⟨w.heap.size,0,none⟩=some (.int .i64 (-1- ↑vs.length)):=bg hmb;have m2:wr.cell? ⟨w.heap.size,1,none⟩=some (.string ⟨#[109,105,110,101]⟩):=bg hmb;have hwr:=HI.out.size;have heq:(aa (blk w.heap.size (.cells #[.int .i64 (-1- ↑vs.length), .string ⟨#[109,105,110,101]⟩] 51 (0,0))) (zh wp ds (.slice lo vs.length cl) vs (.slice ao l.length ca) (mix l (mark vs.length) k)))=aa (sP (.slice ao l.length ca) (mix l (mark vs.length) k)) (aa (blk w.heap.size (.cells #[.int .i64 (-1- ↑vs.length), .string ⟨#[109,105,110,101]⟩] 51 (0,0))) (aa (nc wp ds (.slice lo vs.length cl)) (rowA 32 1 (.slice lo vs.length cl) vs.length vs))):=by unfold zh;ac_rfl
  have bK:=HI.out.eq heq;obtain⟨G,_,hG,_⟩:=bK.pieces;by_cases ay:k<l.length
  ·obtain⟨ga,off,rfl⟩:=fT.out (by omega);have XU:(mix l (mark vs.length) k).length=l.length:=UD l _ hk;have GQ:k<(mix l (mark vs.length) k).length:=by omega
   have zF:=hG;rw[<-XU]at zF;obtain⟨x0,x1⟩:=ue zF GQ;have f0:=bV zF (off+k*2);have f1:=bV zF (off+k*2+1);have qc:=YC XU hG GQ (mark vs.length);rw[UE l _ ay]at qc;have C4:Hid (Goes (aa (blk w.heap.size (.cells #[.int .i64 (-1- ↑vs.length), .string ⟨#[109,105,110,101]⟩] 51 (0,0))) (zh wp ds (.slice lo vs.length cl) vs (.slice (some ⟨ga,off,none⟩) l.length ca) (mix l (mark vs.length) (k+1)))) w F ((wr.setCell ⟨ga,off+k*2,none⟩ (.int .i64 (-1- ↑vs.length))).setCell ⟨ga,off+k*2+1,none⟩ (.string ⟨#[109,105,110,101]⟩))):=
    (bK.part (cZ _ _ _ _ _) hG qc).eq (by unfold zh;ac_rfl)
   clear qc hG zF bK heq HI hFI hmb;go_wp2;go_roundw
   case rel=>exact⟨k+1,by omega,by go_num,C4⟩
   case measure=>simp[intOf];omega
  ·obtain rfl:k=l.length:=by omega
   rw[UC]at bK hG;have lH:(rowA 51 2 (.slice ao l.length ca) l.length (flat Fc (List.replicate l.length (mark vs.length)))).holds wr G:=by have:=hG;unfold sP at this;rw[List.length_replicate]at this;exact this
   have uL:=hide lH;have nt:=hide bK;clear hG lH bK heq HI hFI hmb;go_wp2_with (at_builtin;go_must(refine aC _ rfl _ _ 32 rfl 51 i0 (.agg #[.int .i64 0, .string ⟨#[]⟩]) 2 24 underlying32 hi gI dN fS rfl (by decide) (F:=G) _ l.length (flat Fc (List.replicate l.length (mark vs.length))) rfl (au uL.out ((ah _ _).alloc (ae _) _)) ⟨wr.heap.size,0,none⟩ 2 2 [.int .i64 (-1- ↑vs.length), .string ⟨#[109,105,110,101]⟩, .int .i64 (-1- ↑vs.length), .string ⟨#[109,105,110,101]⟩] rfl rfl (World.news_of_block (cs:= #[.int .i64 (-1- ↑vs.length), .string ⟨#[109,105,110,101]⟩, .int .i64 (-1- ↑vs.length), .string ⟨#[109,105,110,101]⟩]) (t:=51) (fr:=(0,0)) (heap_alloc_new wr _)) (by simp[Value.oneCell']) (by unfold maxLen;omega) (by omega) ?main))
   case main=>
    intro dP eQ w1 qa;have GU:Goes (aa (sP (.slice dP (l.length+2) eQ) (List.replicate (l.length+2) (mark vs.length))) (aa (blk w.heap.size (.cells #[.int .i64 (-1- ↑vs.length), .string ⟨#[109,105,110,101]⟩] 51 (0,0))) (aa (nc wp ds (.slice lo vs.length cl)) (rowA 32 1 (.slice lo vs.length cl) vs.length vs)))) w F w1:=by refine((nt.out.dt _).part (cZ _ _ _ _ _) (by unfold sP;rw[List.length_replicate];exact au uL.out ((ah _ _).alloc (ae _) (.cells #[.int .i64 (-1- ↑vs.length), .string ⟨#[109,105,110,101]⟩, .int .i64 (-1- ↑vs.length), .string ⟨#[109,105,110,101]⟩] 51))) (A':=sP (.slice dP (l.length+2) eQ) (List.replicate (l.length+2) (mark vs.length))) ?_);unfold sP;rw[List.length_replicate];refine qa.eq ?_;rw[show List.replicate (l.length+2) (mark vs.length)=List.replicate l.length (mark vs.length)++ [mark vs.length]++ [mark vs.length]by rw[List.replicate_succ',List.replicate_succ'],dL,dL,List.append_assoc];rfl
    have Yg:=GU.eq (show _=aa (rowA 32 1 (.slice lo vs.length cl) vs.length vs) (aa (nc wp ds (.slice lo vs.length cl)) (aa (sP (.slice dP (l.length+2) eQ) (List.replicate (l.length+2) (mark vs.length))) (blk w.heap.size (.cells #[.int .i64 (-1- ↑vs.length), .string ⟨#[109,105,110,101]⟩] 51 (0,0)))))by ac_rfl);obtain⟨G2,R2,pw,hR2,_,_,PC⟩:=Yg.pieces;obtain⟨bN,Iu⟩:=dC (show(aa (blk wp _) _).holds w1 R2 from hR2);have W7:w1.cell? ⟨wp,1,none⟩=some (.slice lo vs.length cl):=bg bN;have f1':w1.frozen? ⟨wp,1,none⟩=false:=oz bN;have PQ: ¬G2 wp:=fun h=>PC wp h Iu;have BU:wp<w1.heap.size:=(cT.1 bN).1;have pn:=hide pw;have HNP:=hide PQ;have J1:=hide Yg;clear qa GU Yg pw hR2 PC bN PQ nt uL c1;go_wp2_with (at_builtin;go_must(refine aC _ rfl _ _ 76 rfl 32 j0 (.slice none 0 0) 1 24 underlying76 hj PY PZ P0 rfl (by decide) (F:=G2) _ vs.length vs rfl (au pn.out ((ah _ _).alloc (ae _) _)) ⟨w1.heap.size,0,none⟩ 1 1 [.slice dP (l.length+2) eQ] rfl rfl (World.news_of_block (cs:= #[.slice dP (l.length+2) eQ]) (t:=32) (fr:=(0,0)) (heap_alloc_new w1 _)) (by simp[Value.oneCell']) (by unfold maxLen;omega) (by omega) ?Qw))
    case Qw=>
     intro cU gz w2 gQ;have abg:wp<(w1.alloc (.cells #[.slice dP (l.length+2) eQ] 32)).heap.size:=by simp;omega
     have c2:w2.cell? ⟨wp,1,none⟩=some (.slice lo vs.length cl):=by rw[gQ.only.cell (p:=⟨wp,1,none⟩) abg HNP.out,((ah w1.heap.size w1).alloc (ae _) _).cell (p:=⟨wp,1,none⟩) BU];exact W7
     have f2:w2.frozen? ⟨wp,1,none⟩=false:=by rw[gQ.only.frozen (p:=⟨wp,1,none⟩) abg HNP.out,((ah w1.heap.size w1).alloc (ae _) _).frozen (p:=⟨wp,1,none⟩) BU];exact f1'
     have HX:Hid (∃a' ET,Goes (aa (nc wp ds ET) (aa (rowA 32 1 ET (vs.length+1) (vs++ [a'])) (sP a' (List.replicate (l.length+2) (mark vs.length))))) w F (w2.setCell ⟨wp,1,none⟩ (.slice cU (vs.length+1) gz))):=by refine⟨.slice dP (l.length+2) eQ, .slice cU (vs.length+1) gz, ?_⟩;have h3:=(J1.out.dt (.cells #[.slice dP (l.length+2) eQ] 32)).part (cZ _ _ _ _ _) (au pn.out ((ah _ _).alloc (ae _) _)) gQ;have h4:=(h3.eq (show _=aa (blk wp (.cells #[ds, .slice lo vs.length cl, .bool false] 78 (0,0))) (aa (rowA 32 1 (.slice cU (vs.length+1) gz) (vs.length+1) (vs++ [.slice dP (l.length+2) eQ])) (aa (sP (.slice dP (l.length+2) eQ) (List.replicate (l.length+2) (mark vs.length))) (blk w.heap.size (.cells #[.int .i64 (-1- ↑vs.length), .string ⟨#[109,105,110,101]⟩] 51 (0,0)))))by unfold nc;ac_rfl)).store 1 (.slice cU (vs.length+1) gz);exact(h4.eq (show _=aa (aa (nc wp ds (.slice cU (vs.length+1) gz)) (aa (rowA 32 1 (.slice cU (vs.length+1) gz) (vs.length+1) (vs++ [.slice dP (l.length+2) eQ])) (sP (.slice dP (l.length+2) eQ) (List.replicate (l.length+2) (mark vs.length))))) (blk w.heap.size (.cells #[.int .i64 (-1- ↑vs.length), .string ⟨#[109,105,110,101]⟩] 51 (0,0)))by show aa (nc wp ds (.slice cU (vs.length+1) gz)) _=_;ac_rfl)).drop
     clear gQ J1 pn W7 f1';go_wp2;go_end0;exact⟨rfl,HX.out⟩
def wm(c:Int)(n:Nat):Nat:=((if c<0 then-(c+1)else c) %n).toNat
theorem QV(c:Int)(n:Nat)(hn:0<n):wm c n<n:=by unfold wm;generalize(if c<0 then-(c+1)else c)=z;have h0:=Int.emod_nonneg z (b:=(n:Int)) (by omega);have h1:=Int.emod_lt_of_pos z (b:=(n:Int)) (by omega);omega
theorem Fh{z:Int}{i:Nat}(h:z=(i:Int)):Ending.returned (.int .i64 z)= .returned (.int .i64 (i:Int)):=by rw[h]
theorem pick_any(c:Int)(n:Nat)(w:World)(hn:0<n)(sH:n<=4194304)(hc: -9223372036854775808<=c∧c<=9223372036854775807):Calls prog 59 #[.int .i64 c, .int .i64 n] w fun e w'=>e= .returned (.int .i64 (wm c n))∧w'=w:=by
 have KD: ∀z:Int,0<=z %(n:Int):=fun z=>Int.emod_nonneg z (by omega);by_cases h:c<0
 ·have HE:Hid (-((c+1).tmod (n:Int))=(wm c n:Int)):=by
   show _=_;unfold wm;rw[if_pos h,<-Int.neg_tmod,Int.tmod_eq_emod_of_nonneg (by omega)];have:=KD (-(c+1));omega
  clear KD;go_enter func59,ntmps59;go_wp2;go_ret;exact⟨Fh HE.out,rfl⟩
 ·have HE:Hid (c %(n:Int)=(wm c n:Int)):=by
   show _=_;unfold wm;rw[if_neg h];have:=KD c;omega
  clear KD;go_enter func59,ntmps59;go_wp2;go_ret;exact⟨Fh HE.out,rfl⟩
theorem Cz{w:World}{G:Ft}{v:Value}{l:List (Int×Bs)}(h:(sP v l).holds w G): ∃ao cap,v= .slice ao l.length cap∧l.length<=maxLen∧(0<l.length-> ∃g off,ao=some ⟨g,off,none⟩):=by obtain⟨ao,cap,e,h1,h2,h3,_⟩:=bC h;exact⟨ao,cap,e,aw h1 h2,fun hp=>by obtain⟨g,off,e,_⟩:=h3 hp;exact⟨g,off,e⟩⟩
theorem FN(a b:Value)(l:List (Int×Bs))(w:World)(Ga Gb:Ft)(ha:(sP a l).holds w Ga)(hb:(sP b l).holds w Gb):Calls prog 64 #[a,b] w fun e w'=>e= .returned (.bool true)∧Below w.heap.size w w':=by
 obtain⟨ao,ca,rfl,hm,bI⟩:=Cz ha;obtain⟨bo,cb,rfl,_,GL⟩:=Cz hb;have hl:l.length<=9223372036854775807:=by unfold maxLen at hm;omega
 have HA:=hide bI;have HB:=hide GL;have HRA:=hide ha;have HRB:=hide hb;clear bI GL ha hb;go_enter func64,ntmps64;go_wp2;go_loopw [13] (fun i wr=> ∃k:Nat,k<=l.length∧i= .int .i64 k∧Below w.heap.size w wr) (fun i _=>l.length-(intOf i).toNat)
 case atStart=>exact⟨0,aJ _,rfl,ah _ _⟩
 case round=>
  obtain⟨k,hk,rfl,hB⟩:=hrel;by_cases ay:k<l.length
  ·obtain⟨ga,adZ,rfl⟩:=HA.out (by omega);obtain⟨gb,UT,rfl⟩:=HB.out (by omega);obtain⟨a1,a2⟩:=ue (au HRA.out hB) ay;obtain⟨b1,b2⟩:=ue (au HRB.out hB) ay;go_wp2
   go_quiet (fail)
   go_wp2;go_roundw
   case rel=>exact⟨k+1,by omega,by go_num,⟨hB.os,hB.tape,hB.output,hB.size,hB.block⟩⟩
   case measure=>simp[intOf];omega
  ·obtain rfl:k=l.length:=by omega
   go_wp2;go_ret;exact⟨rfl,hB⟩
theorem MD(wp:Nat)(ds ls:Value)(hs:List (Value×Nat))(w:World)(cP:w.heap[wp]?=some (.cells #[ds,ls, .bool false] 78 (0,0)))(G:Ft)(pH:(rowA 32 1 ls hs.length (hs.map (·.1))).holds w G)(hl: ∀k (hk:k<hs.length),∃H,(Qu (hs[k]'hk,k)).holds w H)(hn:hs.length<=4194304):Calls prog 38 #[.pointer (some ⟨wp,0,none⟩)] w fun e w'=>e= .returned (.bool true)∧Below w.heap.size w w':=by
 obtain⟨ao,ca,rfl,_,_,bI,_⟩:=bC pH;have c1:w.cell? ⟨wp,1,none⟩=some (.slice ao hs.length ca):=bg cP;have fT:Hid (0<hs.length-> ∃g off,ao=some ⟨g,off,none⟩):=fun hp=>by obtain⟨g,off,e,_⟩:=bI hp;exact⟨g,off,e⟩
 have fy:=hide pH;have HL:=hide hl;clear bI pH hl cP;go_enter func38,ntmps38;go_wp2;go_loopw [12] (fun i wr=> ∃k:Nat,k<=hs.length∧i= .int .i64 k∧Below w.heap.size w wr) (fun i _=>hs.length-(intOf i).toNat)
 case atStart=>exact⟨0,aJ _,rfl,ah _ _⟩
 case round=>
  obtain⟨k,hk,rfl,hB⟩:=hrel;by_cases ay:k<hs.length
  ·obtain⟨g,off,rfl⟩:=fT.out (by omega);have x0:wr.cell? ⟨g,off+k,none⟩=some (hs[k]'ay).1:=by
    rw[bm (au fy.out hB) k (by omega),List.getElem?_map,a7 ay];rfl
   obtain⟨H,hH⟩:=HL.out k ay;obtain⟨bo,cb,hv,hm,GL⟩:=Cz (show(sP (hs[k]'ay).1 (List.replicate (hs[k]'ay).2 (mark k))).holds w H from hH);rw[List.length_replicate]at hv hm GL;rw[hv]at x0;have hH2:(sP (.slice bo (hs[k]'ay).2 cb) (List.replicate (hs[k]'ay).2 (mark k))).holds w H:=by rw[<-hv];exact hH
   generalize(hs[k]'ay).2=m at*;have Eg:m<=9223372036854775807:=by unfold maxLen at hm;omega
   have HH:=hide hH2;have HBO:=hide GL;have HB:=hide hB;clear hH hH2 GL hv hm;obtain⟨wo,rfl⟩: ∃wo,wo=wr:=⟨_,rfl⟩;go_wp2;go_loopw [19] (fun i wr2=> ∃j:Nat,j<=m∧i= .int .i64 j∧Below w.heap.size w wr2) (fun i _=>m-(intOf i).toNat)
   case atStart=>exact⟨0,aJ _,rfl,HB.out⟩
   case round=>
    obtain⟨j,hj,rfl,hB2⟩:=hrel;have cg:=hB2.size;by_cases lK:j<m
    ·obtain⟨gb,UT,rfl⟩:=HBO.out (by omega);have hH3:(sP (.slice (some ⟨gb,UT,none⟩) (List.replicate m (mark k)).length cb) (List.replicate m (mark k))).holds wr H:=by rw[List.length_replicate];exact au HH.out hB2
     obtain⟨b1,b2⟩:=ue hH3 (k:=j) (by rw[List.length_replicate];exact lK);rw[List.getElem_replicate]at b1 b2;have b1':wr.cell? ⟨gb,UT+j*2,none⟩=some (.int .i64 (-1- ↑k)):=b1;have b2':wr.cell? ⟨gb,UT+j*2+1,none⟩=some (.string ⟨#[109,105,110,101]⟩):=b2;clear b1 b2 hH3;go_wp2;go_roundw
     case rel=>exact⟨j+1,by omega,by go_num,hB2.alloc cg _⟩
     case measure=>simp[intOf];omega
    ·obtain rfl:j=m:=by omega
     go_wp2;go_roundw
     case rel=>exact⟨k+1,by omega,by go_num,hB2⟩
     case measure=>simp[intOf];omega
  ·go_wp2;go_ret;exact⟨rfl,hB⟩
