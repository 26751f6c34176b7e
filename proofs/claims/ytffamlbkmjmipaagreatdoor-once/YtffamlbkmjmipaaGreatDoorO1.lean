import Derived.Test.YtffamlbkmjmipaaGreatDoorC34
set_option maxHeartbeats 8000000
set_option maxRecDepth 100000
namespace Go.Proofs.YtffamlbkmjmipaaGreatDoor
open _root_.Go.Proofs.Tryz
namespace Mc
open bG
structure aaj where
 o:List (Int×Bs)
 f:Cn->Cn
 n: ∀x,(f x).n=x.n
 drains: ∀x,(f x).drains=x.drains
 gone: ∀x,(f x).gone=x.gone
 abP: ∀x,f {x with gone:=true}={f x with gone:=true}
 abO: ∀x,f {x with drains:=true}={f x with drains:=true}
namespace St
variable{s:St}(k:aaj)
end St
end Mc
namespace Kp
open Go.RowKit aJ Mc Mr Lw bG
def u7:pz:=⟨3,1,2,3,2⟩
def TD:Bs:= [115,117,98,32,57,57,57,57,57,57,32,97,32,97]
def Qt:Bs:= [97,99,99,32,57,57,57,57,57,57]
def TC:List Ev:= [⟨.tell 9 TD, [(9,Qt)]⟩]
def KZ:St:=(tell (St.init u7) 9 TD).told
theorem GY:u7.fine=true:=by decide+kernel
theorem UX:uK (St.init u7) TC=true:=by decide+kernel
theorem abj:ve (St.init u7) TC 1=KZ:=rfl
theorem WK:Mc.Good 1 KZ:=by have:=r7 TC (St.init u7) UX (Mc.Good.start GY) 1 (af _);rw[abj]at this;exact this
theorem Z5:KZ.out= []:=rfl
theorem tu(S:ByteArray)(i m:Nat):(S.extract i (i+m)).data.toList=(S.data.toList.drop i).take m:=by simp
section
variable{base:Nat}{cg:World}
theorem KC(P:oc base cg)(wp:Nat)(s:St)(R:aJ){w w1:World}{F:Ft}(h:Goes (aa (keepA P wp s) R) w F w1): ∃x,w1.cell? ⟨wp,0,none⟩=some (.pointer (some ⟨x,0,none⟩))∧Goes (aa (P.A x s) (aa (blk wp (.cells #[.pointer (some ⟨x,0,none⟩)] 42 (0,0))) R)) w F w1:=by obtain⟨F1,⟨G,H,⟨x,hx⟩,hH,d,e⟩,o,n⟩:=h;refine⟨x,dC (cK hx).1, ?_⟩;have h1:(aa (aa (blk wp (.cells #[.pointer (some ⟨x,0,none⟩)] 42 (0,0))) (P.A x s)) R).holds w1 F1:=⟨G,H,hx,hH,d,e⟩;exact(show Goes _ w F w1 from⟨F1,h1,o,n⟩).eq (by ac_rfl)
theorem Hh(P:oc base cg)(wp:Nat)(c:Int)(hc:I64 c)(t:ByteArray)(s:St){n:Nat}(hv:Mc.Good n s)(ht:t.size<=1000000000000000)(hn:n+(bB 10 (aG.line t.data.toList++ [10])).length<=1299999)(R:aJ){w w1:World}{F:Ft}(Ut:base<=w.heap.size)(ho:Below base cg w)(hF: ∀q,F q->base<=q)(bE:Goes (aa (keepA P wp s) R) w F w1):Calls prog 23 #[.pointer (some ⟨wp,0,none⟩), .int .i64 c, .string t] w1 fun e w2=> ∃v,e= .returned v∧Goes (aa (gZ v (tell s c t.data.toList).out) (aa (keepA P wp (tell s c t.data.toList).told) R)) w F w2:=by have o1:=bE.only;refine km (C:=fun e wa G wb=>Yq P wp (tell s c t.data.toList) wa G e wb) bE (fun G hG=>nU P wp c t hc s hv ht hn w1 G (ar Ut o1.size) (ho.trans (o1.toBelow hF Ut)) hG) ?_;rintro e w2 G Kv⟨v,rfl,hg⟩;exact⟨v,rfl,(Kv _ hg).eq (by ac_rfl)⟩
theorem WN:(tell (St.init u7) 9 TD).out= [(9,Qt)]:=by have h:=yH TC (St.init u7) UX 0 (by decide);exact h.2.1
end
def opt(b:Bool)(B:Nat)(o:Obj):aJ:=if b=true then blk B o else emp
theorem Z1(B:Nat)(o:Obj):opt true B o=blk B o:=if_pos rfl
theorem Qq(B:Nat)(o:Obj):opt false B o=emp:=if_neg Bool.false_ne_true
section
variable{w:World}{P:oc w.heap.size w}{wp n:Nat}{s s':St}{w1 w2:World}{x:List (Int×Bs)}{c:Int}{t:ByteArray}{z:Int}
def mid(P:oc w.heap.size w)(wp:Nat)(s s':St)(x:List (Int×Bs))(bs bi:Bool)(v:Value):aJ:=if bi=true then keepA P wp s' else if bs=true then aa (gZ v x) (keepA P wp s')else keepA P wp s
def oB(z:Int):Obj:= .cells #[.int .u8 z] 5 (0,0)
def oC(x:List (Int×Bs)):Obj:= .cells (x.map fun y=>Value.int .i64 y.1).toArray 3 (0,0)
def oT(x:List (Int×Bs)):Obj:= .cells (x.map fun y=>Value.string ⟨y.2.toArray⟩).toArray 9 (0,0)
def Wv(P:oc w.heap.size w)(wp:Nat)(s s':St)(x:List (Int×Bs))(z:Int)(bb bc bt bs bi:Bool)(ub uc ut v:Value)(w1:World):Prop:=
 ∃B C T:Nat,(bb=true->ub= .slice (some ⟨B,0,none⟩) 1 1)∧(bc=true->uc= .slice (some ⟨C,0,none⟩) x.length x.length)∧(bt=true->ut= .slice (some ⟨T,0,none⟩) x.length x.length)∧
  Goes (aa (opt bb B (oB z)) (aa (opt bc C (oC x)) (aa (opt bt T (oT x)) (mid P wp s s' x bs bi v)))) w (fun _=>False) w1
variable{bb bc bt bs bi:Bool}{ub uc ut v:Value}
theorem Wv.start(h:AE P wp n s w1):Wv P wp s s' x z false false false false false ub uc ut v w1:=
 ⟨0,0,0,nofun,nofun,nofun,h.2.eq (by rw[Qq,Qq,Qq,nx,nx,nx];rfl)⟩
theorem Wv.below(h:Wv P wp s s' x z bb bc bt bs bi ub uc ut v w1)(hb:Below w1.heap.size w1 w2):Wv P wp s s' x z bb bc bt bs bi ub uc ut v w2:=by obtain⟨B,C,T,h1,h2,h3,h4⟩:=h;exact⟨B,C,T,h1,h2,h3,h4.below hb⟩
theorem Wv.conv(h:Wv P wp s s' x z true bc bt bs bi ub uc ut v w1): ∃B,ub= .slice (some ⟨B,0,none⟩) 1 1∧(convert 35 9 (.slice (some ⟨B,0,none⟩) 1 1)).run prog w1= .ok (.string ⟨#[UInt8.ofNat z.toNat]⟩) w1:=by obtain⟨B,C,T,h1,h2,h3,h4⟩:=h;refine⟨B,h1 rfl,td ?_⟩;rw[Z1]at h4;obtain⟨F,hF⟩:=h4.facts;exact(dC (cK hF).1).trans rfl
theorem Wv.fin(h:Wv P wp s s' x z bb bc bt bs true ub uc ut v w1)(hg:Mc.Good n s'):AE P wp n s' w1:=by obtain⟨B,C,T,k1,k2,k3,k4⟩:=h;refine⟨hg,(k4.eq (show _=aa (keepA P wp s') (aa (opt bb B (oB z)) (aa (opt bc C (oC x)) (opt bt T (oT x))))by show aa _ (aa _ (aa _ (keepA P wp s')))=_;ac_rfl)).drop⟩
end
end Kp
namespace Mc
open bG Mr
variable{x:Int}
theorem Df{n:Nat}(h:n<10):mV (UInt8.ofNat (48+n))=true:=by have:=one_byte (48+n) (by omega);unfold mV;rw[this];simp;omega
theorem Sp(n:Nat)(h:n<10 ^19):od (bZ (n:Int))=true∧lA (bZ (n:Int))=(n:Int)∧bZ (n:Int)≠ []:=by
 induction n using Nat.strongRecOn with
 |ind n ih=>
  by_cases hn:n<10
  ·rw[zU hn];refine⟨?_, ?_,by simp⟩
   ·show(mV (UInt8.ofNat (48+n)) &&true)=true;rw[Df hn];rfl
   ·have:=one_byte (48+n) (by omega);show(10:Int)*0+(((UInt8.ofNat (48+n)).toNat:Int)-48)=n;rw[this];omega
  ·obtain⟨h1,h2,h3⟩:=ih (n/10) (by omega) (by omega);rw[Iw hn h];refine⟨?_, ?_,by simp⟩
   ·rw[th,h1,Df (by omega)];rfl
   ·have:=one_byte (48+n %10) (by omega);rw[tY,h2,this];omega
theorem rA(h:0<=x∧x<=999999):od (bZ x)=true∧lA (bZ x)=x∧bZ x≠ []:=by
 have hx9:x.toNat<=999999:=by omega
 have:=Sp x.toNat (Nat.lt_of_le_of_lt hx9 (by decide));rw[Int.toNat_of_nonneg h.1]at this;exact this
theorem Ix{y:Int}(hx:0<=x∧x<=999999)(hy:0<=y∧y<=999999)(h:bZ x=bZ y):x=y:=by rw[<-(rA hx).2.1,h,(rA hy).2.1]
theorem Iu: ∀(f n:Nat),(32:UInt8)∉kP f n
 |0,_=>by simp[kP]
 |f+1,n=>by
  unfold kP;have key: ∀m:Nat,m<10->(32:UInt8)≠UInt8.ofNat (48+m):=fun m hm e=>by have h1:=one_byte (48+m) (by omega);rw[<-e]at h1;have h2:(32:UInt8).toNat=32:=rfl;omega
  split
  ·rename_i h;intro hm;exact key n h (by simpa using hm)
  ·intro hm;rcases List.mem_append.1 hm with hm|hm
   ·exact Iu f _ hm
   ·exact key (n %10) (by omega) (by simpa using hm)
theorem pU(x:Int):(32:UInt8)∉bZ x:=Iu _ _
theorem CE{d:UInt8}(h:mV d=true): ∃m:Nat,m<10∧d=UInt8.ofNat (48+m)∧(d.toNat:Int)-48=(m:Int):=by unfold mV at h;simp only[bm,decide_eq_true_eq]at h;refine⟨d.toNat-48,by omega, ?_,by omega⟩;rw[show 48+(d.toNat-48)=d.toNat by omega];exact UInt8.ofNat_toNat.symm
theorem Ik: ∀(k:Nat) (a:Bs),a.length=k+1->k<=5->od a=true->(a.head?=some 48->k=0)->a=bZ (lA a)∧(a.head?≠some 48->1<=lA a)
 |0,a,hl,_,hd,_=>by
  match a,hl with
  | [d],_=>
   obtain⟨m,hm,e,hv⟩:=CE (d:=d) (by simpa[od]using hd);have hval:lA [d]=(m:Int):=by show(10:Int)*0+((d.toNat:Int)-48)=m;omega
   rw[hval,zU hm,e];refine⟨rfl,fun cA=> ?_⟩;have:m≠0:=by rintro rfl;apply cA;rw[List.head?_cons];rfl
   omega
 |k+1,a,hl,hk,hd,hz=>by
  obtain⟨b,d,rfl⟩: ∃b d,a=b++ [d]:=by
   rcases List.eq_nil_or_concat a with rfl|⟨b,d,rfl⟩
   ·simp at hl
   ·exact⟨b,d,by simp⟩
  have lC:b.length=k+1:=by simpa using hl
  have hh:(b++ [d]).head?=b.head?:=by
   cases b with
   |nil=>simp at lC
   |cons x b=>rfl
  rw[th,bm]at hd;have hnz:b.head?≠some 48:=fun e=>by have:=hz (by rw[hh];exact e);omega
  obtain⟨h1,h2⟩:=Ik k b lC (by omega) hd.1 (fun e=>absurd e hnz);obtain⟨m,hm,e,hv⟩:=CE hd.2;have h3:=h2 hnz;have VJ:=Q6 b hd.1;have sZ:lA b<10 ^6:=Int.lt_of_lt_of_le VJ.2 (by have:(10 ^b.length:Nat)<=10 ^6:=Nat.pow_le_pow_right (by omega) (by omega);exact_mod_cast this)
  have hval:lA (b++ [d])=((10*(lA b).toNat+m:Nat):Int):=by rw[tY,hv];omega
  have h6:((10:Int) ^6)=1000000:=by decide
  refine⟨?_,fun _=>by rw[hval];omega⟩;have hb6:(lA b).toNat<1000000:=by omega
  have h19:(10:Nat) ^19=10000000000000000000:=by decide
  rw[hval,Iw (by omega) (by omega)];rw[show(10*(lA b).toNat+m)/10=(lA b).toNat by omega,show(10*(lA b).toNat+m) %10=m by omega,Int.toNat_of_nonneg VJ.1,<-h1,<-e]
theorem Tu{a:Bs}(h:(cM a).2=true):a=bZ (cM a).1:=by
 unfold cM at h⊢;split
 ·rename_i hc;simp only[bm,decide_eq_true_eq,Bool.not_eq_true']at hc;obtain⟨⟨⟨h1,h6⟩,hz⟩,hd⟩:=hc;refine(Ik (a.length-1) a (by omega) (by omega) hd (fun e=> ?_)).1;rw[e]at hz;simp at hz;omega
 ·rename_i hc;rw[if_neg hc]at h;cases h
end Mc
namespace Mc
open bG Mr
abbrev Op:=List (Bs×Int)
def live(O:Op):Op:=O.filter fun p=>decide (0<=p.2)
structure Vw where
 id:Int
 conn:Int
 ten:Bs
 txt:Bs
def Rq.vw(r:Rq):Vw:=⟨r.id,r.conn,r.ten,r.txt⟩
def Vw.op(x:Vw):Bs×Int:=(bZ x.id,x.conn)
def Vw.fair(x:Vw):Prop:=(0<=x.id∧x.id<=999999)∧((32:UInt8)∉x.ten∧(32:UInt8)∉x.txt)∧x.ten.length<=64∧x.txt.length<=64
def St.vw(s:St):List Vw:=s.reqs.map Rq.vw
def quiet(k:Bs):Prop:=k= [115,116,111,112]∨k= [114,101,106]∨k= [110,111,110,101]∨k= [98,97,100]∨k= [98,121,101]
structure zi(O:Op)(i:Nat)(id:Bs)(c:Int):Prop where
 at':O[i]?=some (id,c)
 last: ∀(j:Nat) (p:Bs×Int),i<j->O[j]?=some p->p.1≠id
inductive Ends(msg:Bs):Op->Int->Bs->Op->Prop
 |quiet {O:Op} {c:Int} {t k:Bs} {r:List Bs} (h:bB 32 t=k::r) (hk:quiet k):Ends msg O c t O
 |acc {O:Op} {c:Int} {t id:Bs} (h:bB 32 t= [[97,99,99],id]) (hn: ∀p∈O,p.1≠id):Ends msg O c t (O++ [(id,c)])
 |run {O:Op} {c:Int} {t id a b d:Bs} {i:Nat} {c2:Int} (h:bB 32 t= [[114,117,110],id,a,b,d]) (hs:zi O i id c2) (h0:0<=c2):Ends msg O c t O
 |fin {O:Op} {c:Int} {t k id:Bs} {i:Nat} (h:bB 32 t= [k,id]) (hk:k= [101,114,114]∨k= [103,111,110,101]) (hs:zi O i id c):Ends msg O c t (O.set i ([],-1))
 |val {O:Op} {c:Int} {t id n x:Bs} {i:Nat} (h:bB 32 t= [[118,97,108],id,x]) (hm:bB 32 msg= [bO,id,n,x]) (hz:msg.length<=1000) (hs:zi O i id c):Ends msg O c t (O.set i ([],-1))
def Folds(msg:Bs):Op->List (Int×Bs)->Op->Prop
 |O, [],O'=>O=O'
 |O,x::l,O'=> ∃O1,(Ends msg O x.1 x.2 O1∧x.2.length<=1000)∧Folds msg O1 l O'
theorem Folds.app{msg:Bs}: ∀{l:List (Int×Bs)} {O O1 O2:Op} {l2:List (Int×Bs)},Folds msg O l O1->Folds msg O1 l2 O2->Folds msg O (l++l2) O2
 | [],O,O1,O2,l2,h,h2=>by cases h;exact h2
 |x::l,O,O1,O2,l2,⟨O3,h1,h3⟩,h2=>⟨O3,h1,h3.app h2⟩
theorem Folds.one{msg:Bs}{O O':Op}{c:Int}{t:Bs}(h:Ends msg O c t O')(hl:t.length<=1000):Folds msg O [(c,t)] O':=⟨O',⟨h,hl⟩,rfl⟩
structure Rel(q:List Vw)(O:Op):Prop where
 lv:live O=q.map Vw.op
 fair: ∀x∈q,x.fair
 dist: ∀(i j:Nat) (p p':Bs×Int),i<j->O[i]?=some p->O[j]?=some p'->p.1=p'.1->p.1= []
def Flow(msg:Bs)(q:List Vw)(s:St)(q':List Vw)(s':St):Prop:= ∃l,s'.out=s.out++l∧ ∀O,Rel q O-> ∃O',Folds msg O l O'∧Rel q' O'
section
variable{msg:Bs}{q q1 q2:List Vw}{s s1 s2:St}
theorem Flow.same(h:s1.out=s.out):Flow msg q s q s1:=⟨[],by simp[h],fun O hO=>⟨O,rfl,hO⟩⟩
theorem Flow.trans(h:Flow msg q s q1 s1)(h2:Flow msg q1 s1 q2 s2):Flow msg q s q2 s2:=by obtain⟨l,e,f⟩:=h;obtain⟨l2,e2,f2⟩:=h2;refine⟨l++l2,by rw[e2,e,List.append_assoc],fun O hO=> ?_⟩;obtain⟨O1,a1,b1⟩:=f O hO;obtain⟨O2,a2,b2⟩:=f2 O1 b1;exact⟨O2,a1.app a2,b2⟩
theorem Flow.quiet{c:Int}{t k:Bs}{r:List Bs}(h:bB 32 t=k::r)(hk:Mc.quiet k)(hl:t.length<=1000):Flow msg q s q (s.say c t):=⟨[(c,t)],rfl,fun O hO=>⟨O, .one (.quiet h hk) hl,hO⟩⟩
end
theorem Rel.spot{q:List Vw}{O:Op}(h:Rel q O){x:Vw}(hx:x∈q): ∃i,zi O i (bZ x.id) x.conn:=by
 have hm:x.op∈live O:=by rw[h.lv];exact az.2 ⟨x,hx,rfl⟩
 obtain⟨i,hi⟩:=List.getElem?_of_mem (aL.1 hm).1;refine⟨i,hi,fun j p hj hp e=> ?_⟩;exact(rA (h.fair x hx).1).2.2 (h.dist i j _ _ hj hi hp e.symm)
theorem Rel.pos{q:List Vw}{O:Op}(h:Rel q O){x:Vw}(hx:x∈q):0<=x.conn:=by
 have hm:x.op∈live O:=by rw[h.lv];exact az.2 ⟨x,hx,rfl⟩
 exact of_decide_eq_true (aL.1 hm).2
theorem DA: ∀(O:Op) (i:Nat) (p:Bs×Int),O[i]?=some p->0<=p.2-> ∃a b,live O=a++p::b∧live (O.set i ([],-1))=a++b∧(∀x∈a,∃j,j<i∧O[j]?=some x)∧(∀x∈b,∃j,i<j∧O[j]?=some x)
 | [],i,p,h,_=>by simp at h
 |x::O,0,p,h,hp=>by
  simp at h;subst h;refine⟨[],live O, ?_, ?_,(fun _ h=>nomatch h),fun y hy=> ?_⟩
  ·unfold live;rw[List.filter_cons_of_pos (by simpa using hp)];rfl
  ·unfold live;rw[List.set_cons_zero,List.filter_cons_of_neg (by decide)];rfl
  ·obtain⟨j,hj⟩:=List.getElem?_of_mem (aL.1 hy).1;exact⟨j+1,by omega,by rw[List.getElem?_cons_succ];exact hj⟩
 |x::O,i+1,p,h,hp=>by
  rw[List.getElem?_cons_succ]at h;obtain⟨a,b,h1,h2,h3,h4⟩:=DA O i p h hp;have h4': ∀y∈b,∃j,i+1<j∧(x::O)[j]?=some y:=fun y hy=>by obtain⟨j,hj,e⟩:=h4 y hy;exact⟨j+1,by omega,by rw[List.getElem?_cons_succ];exact e⟩
  have h3': ∀y∈a,∃j,j<i+1∧(x::O)[j]?=some y:=fun y hy=>by obtain⟨j,hj,e⟩:=h3 y hy;exact⟨j+1,by omega,by rw[List.getElem?_cons_succ];exact e⟩
  unfold live at h1 h2⊢;rw[List.set_cons_succ];by_cases hx:0<=x.2
  ·refine⟨x::a,b, ?_, ?_,fun y hy=> ?_,h4'⟩
   ·rw[List.filter_cons_of_pos (by simpa using hx),h1];rfl
   ·rw[List.filter_cons_of_pos (by simpa using hx),h2];rfl
   ·rcases List.mem_cons.1 hy with rfl|hy
    ·exact⟨0,by omega,rfl⟩
    ·exact h3' y hy
  ·refine⟨a,b, ?_, ?_,h3',h4'⟩
   ·rw[List.filter_cons_of_neg (by simpa using hx),h1]
   ·rw[List.filter_cons_of_neg (by simpa using hx),h2]
theorem Cj{α:Type}{x:α}: ∀{a A b B:List α},x∉a->x∉b->a++x::b=A++x::B->a=A∧b=B
 | [], [],b,B,_,_,h=>by simp at h;exact⟨rfl,h⟩
 | [],y::A,b,B,_,hb,h=>by simp only[List.nil_append,List.cons_append,List.cons.injEq]at h;rw[h.2]at hb;simp at hb
 |z::a, [],b,B,ha,_,h=>by simp only[List.nil_append,List.cons_append,List.cons.injEq]at h;rw[h.1]at ha;simp at ha
 |z::a,y::A,b,B,ha,hb,h=>by simp only[List.cons_append,List.cons.injEq]at h;obtain⟨e1,e2⟩:=Cj (fun hm=>ha (aV _ hm)) hb h.2;rw[h.1,e1,e2];exact⟨rfl,rfl⟩
theorem M7{O:Op}{i:Nat}(h: ∀(i j:Nat) (p p':Bs×Int),i<j->O[i]?=some p->O[j]?=some p'->p.1=p'.1->p.1= []): ∀(a b:Nat) (p p':Bs×Int),a<b->(O.set i ([],-1))[a]?=some p->(O.set i ([],-1))[b]?=some p'->p.1=p'.1->p.1= []:=by
 intro a b p p' rG ha hb e;rw[List.getElem?_set]at ha hb;split at ha
 ·split at ha
  ·cases ha;rfl
  ·cases ha
 ·split at hb
  ·split at hb
   ·cases hb;exact e
   ·cases hb
  ·exact h a b p p' rG ha hb e
theorem Rel.drop{q1 q2:List Vw}{x:Vw}{O:Op}(h:Rel (q1++x::q2) O): ∃i,zi O i (bZ x.id) x.conn∧Rel (q1++q2) (O.set i ([],-1)):=by
 have hx:x∈q1++x::q2:=by simp
 obtain⟨i,hs⟩:=h.spot hx;obtain⟨a,b,h1,h2,h3,h4⟩:=DA O i _ hs.at' (h.pos hx);have cA:=(rA (h.fair x hx).1).2.2;have e:a++(bZ x.id,x.conn)::b=q1.map Vw.op++(bZ x.id,x.conn)::q2.map Vw.op:=by rw[<-h1,h.lv];simp[Vw.op]
 obtain⟨e1,e2⟩:=Cj (fun hm=>by
  obtain⟨j,hj,ej⟩:=h3 _ hm;exact cA (h.dist j i _ _ hj ej hs.at' rfl)) (fun hm=>by
  obtain⟨j,hj,ej⟩:=h4 _ hm;exact cA (h.dist i j _ _ hj hs.at' ej rfl)) e
 refine⟨i,hs,by rw[h2,e1,e2,aD],fun y hy=>h.fair y ?_,M7 h.dist⟩;simp only[List.mem_append,List.mem_cons]at hy⊢;rcases hy with hy|hy
 ·exact .inl hy
 ·exact .inr (.inr hy)
theorem Rel.full{L:List Vw}(hn:(L.map (·.id)).Nodup)(hf: ∀x∈L,x.fair)(hc: ∀x∈L,0<=x.conn):Rel L (L.map Vw.op):=by
 refine⟨?_,hf,fun i j p p' Rk hi hj e=> ?_⟩
 ·unfold live;rw[List.filter_eq_self];intro p hp;obtain⟨x,hx,rfl⟩:=az.1 hp;exact decide_eq_true (hc x hx)
 ·rw[List.getElem?_map]at hi hj;obtain⟨x,hx,rfl⟩:=Option.map_eq_some_iff.1 hi;obtain⟨y,hy,rfl⟩:=Option.map_eq_some_iff.1 hj;obtain⟨BS,ex⟩:=cz.1 hx;obtain⟨Xv,ey⟩:=cz.1 hy;have hid:x.id=y.id:=Ix (hf x (ex▸bS BS)).1 (hf y (ey▸bS Xv)).1 e;have:=List.pairwise_iff_getElem.1 hn i j (by simpa using BS) (by simpa using Xv) Rk;rw[List.getElem_map,List.getElem_map,ex,ey]at this;exact absurd hid this
theorem Np{L:List Vw}{id:Int}(hf: ∀x∈L,x.fair)(hi:0<=id∧id<=999999)(hn:id∉L.map (·.id)): ∀p∈L.map Vw.op,p.1≠bZ id:=by intro p hp e;obtain⟨x,hx,rfl⟩:=az.1 hp;have:=Ix (hf x hx).1 hi e;exact hn (this▸az.2 ⟨x,hx,rfl⟩)
namespace St
variable{msg:Bs}{q:List Vw}{s:St}
theorem R8:bB 32 [98,121,101]= [[98,121,101]]:=by decide
theorem MP(c:Int):(s.fp c).vw=s.vw:=by unfold fp;split<;>rfl
theorem Cq(c:Int):Flow msg q s q (s.fp c):=by
 unfold fp;split
 ·exact(Flow.same rfl).trans (Flow.quiet R8 (.inr (.inr (.inr (.inr rfl)))) (by decide))
 ·exact Flow.same rfl
theorem nA(i:Nat):(s.aZ i).vw=s.vw:=by
 unfold aZ;split
 ·rw[MP];rfl
 ·rfl
theorem i6(i:Nat):Flow msg q s q (s.aZ i):=by
 unfold aZ;split
 ·exact(Flow.same rfl).trans (Cq _)
 ·exact Flow.same rfl
theorem M5(id n:Int):bB 32 (aU id n)= [[115,116,111,112],bZ id,bZ n]:=by unfold aU;rw[show [115,116,111,112,32]++bZ id++ [32]++bZ n= [115,116,111,112]++32::(bZ id++32::bZ n)by simp,dQ (by decide),dQ (pU _),gS (pU _)]
theorem Au(c id n:Int):Flow msg q s q (s.say c (aU id n)):=Flow.quiet (M5 id n) (.inl rfl) (by have:=gz id;have:=gz n;unfold aU;simp only[aH,List.length_cons,List.length_nil];omega)
theorem Ek: ∀(f:Nat) (s:St) (id:Int),(stops f s id).vw=s.vw
 |0,_,_=>rfl
 |f+1,s,id=>by
  unfold stops;split
  ·rfl
  ·split
   ·rfl
   ·rw[Ek f,nA];rfl
theorem yK: ∀(f:Nat) (s:St) (id:Int),Flow msg q s q (stops f s id)
 |0,_,_=>Flow.same rfl
 |f+1,s,id=>by
  unfold stops;split
  ·exact Flow.same rfl
  ·split
   ·exact Flow.same rfl
   ·exact((Au _ _ _).trans (i6 _)).trans (yK f _ _)
theorem tS(id:Int):Flow msg q s q (s.shut id):=(yK _ s id).trans (Flow.same rfl)
theorem tU(id:Int):(s.shut id).vw=(dropFirst (fun x:Vw=>x.id==id) s.vw):=by
 have e:(s.shut id).vw=((dropFirst (·.id==id) (stops s.ah.length s id).reqs).map Rq.vw):=rfl;have h:(stops s.ah.length s id).vw=s.vw:=Ek _ _ _;rw[e,<-h];unfold vw;generalize(stops s.ah.length s id).reqs=l
 induction l with
 |nil=>rfl
 |cons r l ih=>
  rw[List.map_cons];unfold dropFirst;have e2:(Rq.vw r).id=r.id:=rfl;rw[e2];split
  ·rfl
  ·rw[List.map_cons,ih]
theorem yT(id:Int)(f:Bool):(s.aX id f).vw=s.vw:=by unfold aX;split<;>rfl
theorem yQ(id:Int)(f:Bool):Flow msg q s q (s.aX id f):=by unfold aX;split<;>exact Flow.same rfl
theorem Aq(id:Int)(f:Rq->Rq)(hf: ∀r,(f r).vw=r.vw):(s.bj id f).vw=s.vw:=bn (fun r:Rq=>r.id==id) f Rq.vw hf s.reqs
theorem Ak{id:Int}{r:Rq}(h:s.req id=some r):r.id=id∧ ∃a b,s.vw=a++r.vw::b∧dropFirst (fun x:Vw=>x.id==id) s.vw=a++b:=by
 unfold req at h;obtain⟨h1,a,b,h2,h3⟩:=List.find?_eq_some_iff_append.1 h;refine⟨by simpa using h1,a.map Rq.vw,b.map Rq.vw,by unfold vw;rw[h2];simp, ?_⟩;unfold vw;rw[h2];clear h2 h
 induction a with
 |nil=>rw[List.nil_append,List.map_cons];unfold dropFirst;have:(Rq.vw r).id=r.id:=rfl;rw[this,if_pos h1];rfl
 |cons y a ih=>rw[List.cons_append,List.map_cons];unfold dropFirst;have hy:=h3 y (bY ..);have:(Rq.vw y).id=y.id:=rfl;rw[this,if_neg (by simpa using hy),ih (fun z hz=>h3 z (aV _ hz))];rfl
theorem vp(k:Bs)(hk:(32:UInt8)∉k)(id:Int):bB 32 (k++ [32]++bZ id)= [k,bZ id]:=by rw[show k++ [32]++bZ id=k++32::bZ id by simp,dQ hk,gS (pU _)]
theorem CP{k:Bs}(hk:k= [101,114,114]∨k= [103,111,110,101]){id:Int}{r:Rq}(h:s.req id=some r){t:Bs}(ht:t=k++ [32]++bZ id){s':St}(hs:s'=(s.say r.conn t).shut id):Flow msg s.vw s s'.vw s':=by
 subst hs ht;obtain⟨e,a,b,h1,h2⟩:=Ak h;have hv:((s.say r.conn (k++ [32]++bZ id)).shut id).vw=a++b:=by rw[tU];exact h2
 rw[hv,h1];refine Flow.trans (q1:=a++b) (s1:=s.say r.conn (k++ [32]++bZ id)) ⟨[(r.conn,k++ [32]++bZ id)],rfl,fun O hO=> ?_⟩ (tS _);obtain⟨i,hs,hr⟩:=hO.drop;have e2:(Rq.vw r).id=id:=e;rw[e2]at hs;exact⟨_, .one (.fin (vp k (by rcases hk with rfl|rfl<;>decide) id) hk hs) (by have:=gz id;rcases hk with rfl|rfl<;>simp only[aH,List.length_cons,List.length_nil]<;>omega),hr⟩
theorem pP(id:Int)(c:Bool):Flow msg s.vw s (s.again id c).vw (s.again id c):=by
 unfold again;split
 ·exact Flow.same rfl
 ·split
  ·exact Flow.same rfl
  ·rename_i r hr;split
   ·exact CP (.inl rfl) hr (t:= [101,114,114,32]++bZ id) rfl rfl
   ·rw[yT];split
    ·have e:=Aq (s:=s) id (fun r=>{r with left:=r.left-1}) (fun _=>rfl);rw[e];exact(Flow.same rfl).trans (yQ _ _)
    ·exact yQ _ _
theorem Sb{r:Rq}(h:r.vw.fair)(n:Int):bB 32 (runText r n)= [[114,117,110],bZ r.id,bZ n,r.ten,r.txt]:=by
 unfold runText;rw[show [114,117,110,32]++bZ r.id++ [32]++bZ n++ [32]++r.ten++ [32]++r.txt= [114,117,110]++32::(bZ r.id++32::(bZ n++32::(r.ten++32::r.txt)))by simp,
  dQ (by decide),dQ (pU _),dQ (pU _),dQ (show(32:UInt8)∉r.ten from h.2.1.1),gS (show(32:UInt8)∉r.txt from h.2.1.2)]
theorem SC(c:Int)(ws:List Int)(k:Nat):(s.give c ws k).vw=s.vw:=by
 unfold give;split
 ·rfl
 ·split
  ·rfl
  ·split
   ·rfl
   ·exact bn _ (fun r=>{r with n:=r.n+1}) Rq.vw (fun _=>rfl) s.reqs
theorem J1(c:Int)(ws:List Int)(k:Nat):Flow msg s.vw s (s.give c ws k).vw (s.give c ws k):=by
 rw[SC];unfold give;split
 ·exact Flow.same rfl
 ·split
  ·exact Flow.same rfl
  ·split
   ·exact Flow.same rfl
   ·rename_i r hr;have hm:r.vw∈s.vw:=az.2 ⟨r,cI hr,rfl⟩;refine⟨[(c,runText r (r.n+1))],rfl,fun O hO=>⟨O, ?_,hO⟩⟩;obtain⟨i,hs⟩:=hO.spot hm;refine .one (.run (Sb (hO.fair _ hm) _) hs (hO.pos hm)) ?_;have h1:r.ten.length<=64:=(hO.fair _ hm).2.2.1;have h2:r.txt.length<=64:=(hO.fair _ hm).2.2.2;have h3:=gz r.id;have h4:=gz (r.n+1);unfold runText;simp only[aH,List.length_cons,List.length_nil];omega
theorem uN: ∀(f:Nat) (s:St),Flow msg s.vw s (bR f s).vw (bR f s)
 |0,_=>Flow.same rfl
 |f+1,s=>by
  unfold bR;split
  ·exact Flow.same rfl
  ·split
   ·exact Flow.same rfl
   ·exact(J1 _ _ _).trans (uN f _)
theorem qs:Flow msg s.vw s s.serve.vw s.serve:=uN _ _
theorem yh: ∀(f:Nat) (s:St),Flow msg s.vw s (bV f s).vw (bV f s)
 |0,_=>Flow.same rfl
 |f+1,s=>by
  unfold bV;split
  ·exact Flow.same rfl
  ·split
   ·exact Flow.same rfl
   ·rename_i i _ _ a _;refine Flow.trans ?_ (yh f _);refine Flow.trans (q1:=((s.say a.conn (aU a.id a.n)).aZ i).vw) ?_ (pP _ _);rw[nA];exact(Au _ _ _).trans (i6 _)
theorem Ki(a:At):(s.bk a).vw=s.vw:=by
 unfold bk;split
 ·rfl
 ·split
  ·rw[yT];exact Aq _ _ (fun _=>rfl)
  ·rfl
theorem Aw(id:Int)(f:Bool):(s.aX id f).out=s.out:=by unfold aX;split<;>rfl
theorem Gf(a:At):(s.bk a).out=s.out:=by
 unfold bk;split
 ·rfl
 ·split
  ·rw[Aw];rfl
  ·rfl
theorem IE: ∀(l:List At) (s:St),(l.foldl bk s).vw=s.vw∧(l.foldl bk s).out=s.out
 | [],_=>⟨rfl,rfl⟩
 |a::l,s=>by obtain⟨h1,h2⟩:=IE l (s.bk a);rw[List.foldl_cons,h1,h2,Ki,Gf];exact⟨rfl,rfl⟩
theorem Lv:Flow msg s.vw s s.tick.vw s.tick:=by unfold tick;dsimp only;refine Flow.trans ?_ qs;have h:=IE (bV s.ah.length {s with now:=s.now+1}).ah (bV s.ah.length {s with now:=s.now+1});unfold dE;rw[h.1];refine Flow.trans ?_ (Flow.same h.2);exact Flow.trans (q1:=s.vw) (s1:={s with now:=s.now+1}) (Flow.same rfl) (yh _ _)
def others(c:Int)(l:List Vw):List Vw:=l.filter fun x=>x.conn !=c
theorem qj: ∀(f:Nat) (s:St) (i:Nat) (id c:Int),(bp f s i id c).vw=s.vw
 |0,_,_,_,_=>rfl
 |f+1,s,i,id,c=>by
  unfold bp;split
  ·rfl
  ·split
   ·rw[qj f,nA]
   ·rw[qj f]
theorem lX: ∀(f:Nat) (s:St) (i:Nat) (id c:Int),Flow msg q s q (bp f s i id c)
 |0,_,_,_,_=>Flow.same rfl
 |f+1,s,i,id,c=>by
  unfold bp;split
  ·exact Flow.same rfl
  ·split
   ·exact(i6 _).trans (lX f _ _ _ _)
   ·exact lX f _ _ _ _
theorem mH: ∀(f:Nat) (s:St) (c:Int),Flow msg q s q (aM f s c)
 |0,_,_=>Flow.same rfl
 |f+1,s,c=>by
  unfold aM;split
  ·exact Flow.same rfl
  ·exact((lX _ _ _ _ _).trans (tS _)).trans (mH f _ _)
end St
def lsT(b:Option Int)(x:Vw):Bool:=match b with|none=>true|some i=>decide (x.id<i)
def ZZ(c:Int)(b:Option Int)(x:Vw):Option Int:=if x.conn==c &&lsT b x then some x.id else b
theorem PW(s:St)(c:Int):s.least c=s.vw.foldl (ZZ c) none:=by unfold St.least St.vw;rw[List.foldl_map];rfl
theorem uG(c:Int): ∀(l:List Vw) (b:Option Int) (i:Int),l.foldl (ZZ c) b=some i->b=some i∨ ∃x∈l,x.conn=c∧x.id=i
 | [],b,i,h=> .inl h
 |x::l,b,i,h=>by
  rw[List.foldl_cons]at h;rcases uG c l _ i h with h1|⟨y,hy,h2⟩
  ·unfold ZZ at h1;split at h1
   ·rename_i hc;simp only[bm,beq_iff_eq]at hc;cases h1;exact .inr ⟨x,bY ..,hc.1,rfl⟩
   ·exact .inl h1
  ·exact .inr ⟨y,aV _ hy,h2⟩
theorem uF(c:Int): ∀(l:List Vw) (b:Option Int),l.foldl (ZZ c) b=none->b=none∧ ∀x∈l,x.conn≠c
 | [],b,h=>⟨h,fun _ hx=>nomatch hx⟩
 |x::l,b,h=>by
  rw[List.foldl_cons]at h;obtain⟨h1,h2⟩:=uF c l _ h;unfold ZZ at h1;split at h1
  ·cases h1
  ·rename_i hc;subst h1;refine⟨rfl,fun y hy=> ?_⟩;rcases List.mem_cons.1 hy with rfl|hy
   ·intro e;apply hc;simp[e,lsT]
   ·exact h2 y hy
theorem uj{c id:Int}: ∀(l:List Vw),(l.map (·.id)).Nodup->(∃x∈l,x.conn=c∧x.id=id)->St.others c (dropFirst (fun x:Vw=>x.id==id) l)=St.others c l∧(dropFirst (fun x:Vw=>x.id==id) l).length+1=l.length
 | [],_,h=>by obtain⟨x,hx,_⟩:=h;cases hx
 |y::l,hn,h=>by
  obtain⟨x,hx,hc,hi⟩:=h;rw[List.map_cons,List.nodup_cons]at hn;unfold dropFirst;by_cases hy:y.id=id
  ·rw[if_pos (by simpa using hy)];have hxy:x=y:=by
    rcases List.mem_cons.1 hx with h|h
    ·exact h
    ·exact absurd (az.2 ⟨x,h,hi.trans hy.symm⟩) hn.1
   subst hxy;refine⟨?_,rfl⟩;unfold St.others;rw[List.filter_cons_of_neg (by simp[hc])]
  ·rw[if_neg (by simpa using hy)];have Kw:x∈l:=by
    rcases List.mem_cons.1 hx with h|h
    ·subst h;exact absurd hi hy
    ·exact h
   obtain⟨h1,h2⟩:=uj l hn.2 ⟨x,Kw,hc,hi⟩;refine⟨?_,by rw[List.length_cons,List.length_cons,h2]⟩;unfold St.others at h1⊢;rw[List.filter_cons,List.filter_cons,h1]
theorem uW{p:Vw->Bool}{l:List Vw}(h:(l.map (·.id)).Nodup):((dropFirst p l).map (·.id)).Nodup:=h.sublist ((dt p l).map _)
namespace St
theorem rh: ∀(f:Nat) (s:St) (c:Int),(s.vw.map (·.id)).Nodup->s.vw.length<=f->(aM f s c).vw=others c s.vw
 |0,s,c,_,hl=>by have:s.vw= []:=List.length_eq_zero_iff.1 (by omega);show s.vw=_;rw[this];rfl
 |f+1,s,c,hn,hl=>by
  unfold aM;rw[PW];split
  ·rename_i h;unfold others;rw[List.filter_eq_self.2];intro x hx;simpa using(uF c s.vw none h).2 x hx
  ·rename_i id h;have hx:=(uG c s.vw none id h).resolve_left (by simp);obtain⟨h1,h2⟩:=uj s.vw hn hx;have hv:((bp s.ah.length s 0 id c).shut id).vw=dropFirst (fun x:Vw=>x.id==id) s.vw:=by rw[tU,qj]
   rw[rh f _ c (by rw[hv];exact uW hn) (by rw[hv];omega),hv,h1]
theorem mF{msg:Bs}: ∀(f:Nat) (s:St) (c:Int),Flow msg s.vw s (aP f s c).vw (aP f s c)
 |0,_,_=>Flow.same rfl
 |f+1,s,c=>by
  unfold aP;split
  ·exact Flow.same rfl
  ·split
   ·exact Flow.same rfl
   ·rename_i i _ _ a _;refine Flow.trans ?_ (mF f _ _);refine Flow.trans (q1:=(s.aZ i).vw) ?_ (pP _ _);rw[nA];exact i6 _
theorem FR{msg:Bs}{s:St}(c:Int)(hn:(s.vw.map (·.id)).Nodup):Flow msg (others c s.vw) s (s.close c).vw (s.close c):=by unfold close;dsimp only;refine Flow.trans ?_ qs;refine Flow.trans ?_ (mF _ _ _);have h:=rh s.reqs.length ({s.idle c with aq:=(s.idle c).aq.filter (·.n !=c)}:St) c hn (by unfold vw;rw[aF];exact af _);have e:(aM ({s.idle c with aq:=(s.idle c).aq.filter (·.n !=c)}:St).reqs.length {s.idle c with aq:=(s.idle c).aq.filter (·.n !=c)} c).vw=others c s.vw:=h;rw[e];exact Flow.trans (q1:=others c s.vw) (s1:={s.idle c with aq:=(s.idle c).aq.filter (·.n !=c)}) (Flow.same rfl) (mH _ _ _)
end St
end Mc
namespace Mc
open bG Mr
theorem A3{c:UInt8}{l x:Bs}(h:x∈bB c l):c∉x:=by
 have key:(∀y∈(gu c l).1,c∉y)∧c∉(gu c l).2:=by
  rw[<-List.reverse_reverse l];generalize l.reverse=r
  induction r with
  |nil=>simp[gu]
  |cons b r ih=>
   rw[List.reverse_cons,nv];unfold dz;obtain⟨h1,h2⟩:=ih;split
   ·refine⟨fun y hy=> ?_,by simp⟩;rcases List.mem_append.1 hy with hy|hy
    ·exact h1 y hy
    ·simp at hy;subst hy;exact h2
   ·rename_i hb;refine⟨h1,fun hm=> ?_⟩;rcases List.mem_append.1 hm with hm|hm
    ·exact h2 hm
    ·simp at hm;exact hb hm.symm
 unfold bB at h;rcases List.mem_append.1 h with h|h
 ·exact key.1 x h
 ·simp at h;subst h;exact key.2
theorem nM(t:Bs):(aG.line t).take ((aG.line t).length-9)=t:=by
 have hl:(aG.line t).length=t.length+9:=by simp[aG.line,aG.hex,aG.two]
 rw[hl,Nat.add_sub_cancel];unfold aG.line;rw[List.append_assoc,List.take_append_of_le_length (af _),List.take_length]
theorem KX{t:Bs}(h:fZ (aG.line t)=true):di (aG.line t)=t:=by
 by_cases hc:9<=(aG.line t).length∧(aG.line t).length<=80∧aG.line ((aG.line t).take ((aG.line t).length-9))=aG.line t
 ·rw[(DT hc).1,nM]
 ·rw[(lW hc).2]at h;cases h
structure Said(t:Bs)(m:Mg):Prop where
 id:0<=m.id∧m.id<=999999
 ten:(32:UInt8)∉m.ten
 txt:(32:UInt8)∉m.txt
 abl:m.ten.length<=64
 Z8:m.txt.length<=64
 tl:t.length<=1000
 done:m.kind=bO-> ∃n,bB 32 t= [bO,bZ m.id,n,m.txt]
theorem Hc: ∀(ws:List Bs),(∀x∈ws,(32:UInt8)∉x)->(a6 ws).2=true->(32:UInt8)∉(a6 ws).1.ten∧(32:UInt8)∉(a6 ws).1.txt∧((a6 ws).1.kind=bO-> ∃n,ws= [bO,bZ (a6 ws).1.id,n,(a6 ws).1.txt])
 | [],_,h=>nomatch h
 | [k],_,h=>by refine⟨by simp[a6],by simp[a6],fun hk=> ?_⟩;have e:k=bO:=hk;rw[e]at h;exact absurd h (by decide)
 | [k,a],_,h=>by
  by_cases hk:k=gW
  ·have e:a6 [k,a]=(⟨k,(cM a).1,0, [], []⟩,(cM a).2):=if_pos hk;rw[e];refine⟨by simp,by simp,fun h2=> ?_⟩;have e2:k=bO:=h2;rw[hk]at e2;exact absurd e2 (by decide)
  ·have e:a6 [k,a]=(⟨k,0,0, [], []⟩,false):=if_neg hk;rw[e]at h;cases h
 | [k,a,b],_,h=>by
  by_cases hk:k=kFail
  ·have e:a6 [k,a,b]=(⟨k,(cM a).1,(cM b).1, [], []⟩,(cM a).2 &&(cM b).2):=if_pos hk;rw[e];refine⟨by simp,by simp,fun h2=> ?_⟩;have e2:k=bO:=h2;rw[hk]at e2;exact absurd e2 (by decide)
  ·have e:a6 [k,a,b]=(⟨k,0,0, [], []⟩,false):=if_neg hk;rw[e]at h;cases h
 | [k,a,b,t],hf,h=>by
  by_cases hk:k=bO
  ·have e:a6 [k,a,b,t]=(⟨k,(cM a).1,(cM b).1, [],t⟩,(cM a).2 &&(cM b).2 &&mh t):=if_pos hk;rw[e]at h⊢;simp only[bm]at h;refine⟨by simp,hf t (by simp),fun _=>⟨b, ?_⟩⟩;show [k,a,b,t]= [bO,bZ (cM a).1,b,t];rw[<-Tu h.1.1,hk]
  ·by_cases hs:k=fT
   ·have e:a6 [k,a,b,t]=(⟨k,(cM a).1,0,b,t⟩,(cM a).2 &&tV b &&mh t):=by
     show(if k=bO then _ else if k=fT then _ else _)=_;rw[if_neg hk,if_pos hs]
    rw[e];exact⟨hf b (by simp),hf t (by simp),fun h2=>absurd h2 hk⟩
   ·have e:a6 [k,a,b,t]=(⟨k,0,0, [], []⟩,false):=by
     show(if k=bO then _ else if k=fT then _ else _)=_;rw[if_neg hk,if_neg hs]
    rw[e]at h;cases h
 |_::_::_::_::_::_,_,h=>nomatch h
theorem said_of{t:Bs}(h:ju (aG.line t)=true):Said t (rR (aG.line t)):=by
 have hm:=(GU h).bd;unfold ju at h;simp only[bm]at h;have hlen:t.length<=1000:=by
  by_cases hc:9<=(aG.line t).length∧(aG.line t).length<=80∧aG.line ((aG.line t).take ((aG.line t).length-9))=aG.line t
  ·have hl:(aG.line t).length=t.length+9:=by simp[aG.line,aG.hex,aG.two]
   omega
  ·have h1:=h.1;rw[(lW hc).2]at h1;cases h1
 unfold rR at hm⊢;rw[KX h.1]at hm h⊢;unfold gH at h⊢;obtain⟨h1,h2,h3⟩:=Hc (bB 32 t) (fun x hx=>A3 hx) h.2;exact⟨hm.id,h1,h2,hm.ten,hm.txt,hlen,h3⟩
def Told(msg:Bs)(s s':St):Prop:= ∃l,s'.out=s.out++l∧ ∃O',Folds msg (s.vw.map Vw.op) l O'∧Rel s'.vw O'
structure Sound(s:St):Prop where
 nd:(s.vw.map (·.id)).Nodup
 fair: ∀x∈s.vw,x.fair
 pos: ∀x∈s.vw,0<=x.conn
theorem Sound.rel{s:St}(h:Sound s):Rel s.vw (s.vw.map Vw.op):=Rel.full h.nd h.fair h.pos
theorem Flow.told{msg:Bs}{s s':St}(hs:Sound s)(h:Flow msg s.vw s s'.vw s'):Told msg s s':=by obtain⟨l,e,f⟩:=h;exact⟨l,e,f _ hs.rel⟩
theorem Told.trans{msg:Bs}{s s1 s2:St}(h:Told msg s s1)(h2:Flow msg s1.vw s1 s2.vw s2):Told msg s s2:=by obtain⟨l,e,O1,f,r⟩:=h;obtain⟨l2,e2,f2⟩:=h2;obtain⟨O2,g,r2⟩:=f2 O1 r;exact⟨l++l2,by rw[e2,e,List.append_assoc],O2,f.app g,r2⟩
namespace St
variable{msg:Bs}{s:St}
theorem Im(id:Int)(k:Bs)(hk:(32:UInt8)∉k):bB 32 ([114,101,106,32]++bZ id++(32::k))= [[114,101,106],bZ id,k]:=by rw[show [114,101,106,32]++bZ id++(32::k)= [114,101,106]++32::(bZ id++32::k)by simp,dQ (by decide),dQ (pU _),gS hk]
theorem El(hs:Sound s)(c:Int)(hc:0<=c){m:Mg}(hm:Said msg m):Told msg s (s.cf c m):=by
 unfold cf;split
 ·exact Flow.told hs (Flow.quiet (Im m.id [100,117,112] (by decide)) (.inr (.inl rfl)) (by have:=gz m.id;simp only[aH,List.length_cons,List.length_nil];omega))
 ·rename_i hn;split
  ·exact Flow.told hs (Flow.quiet (Im m.id [102,117,108,108] (by decide)) (.inr (.inl rfl)) (by have:=gz m.id;simp only[aH,List.length_cons,List.length_nil];omega))
  ·have hv:((({s with reqs:=s.reqs++ [⟨m.id,c,m.ten,m.txt,0,s.c.re,false⟩]}:St).say c ([97,99,99,32]++bZ m.id)).aX m.id false).vw=s.vw++ [⟨m.id,c,m.ten,m.txt⟩]:=by
    rw[yT];show(s.reqs++ [_]).map Rq.vw=_;rw[aD];rfl
   have hni:m.id∉s.vw.map (·.id):=fun zv=>by apply hn;unfold vw at zv;rw[aB]at zv;obtain⟨r,hr,er⟩:=az.1 zv;exact List.find?_isSome.2 ⟨r,hr,by simpa[Rq.vw]using er⟩
   have hS:Sound ((({s with reqs:=s.reqs++ [⟨m.id,c,m.ten,m.txt,0,s.c.re,false⟩]}:St).say c ([97,99,99,32]++bZ m.id)).aX m.id false):=by
    refine⟨?_, ?_, ?_⟩
    ·rw[hv,aD];refine List.nodup_append.2 ⟨hs.nd,by simp, ?_⟩;intro a ha b hb;simp at hb;subst hb;rintro rfl;exact hni ha
    ·rw[hv];intro x hx;rcases List.mem_append.1 hx with hx|hx
     ·exact hs.fair x hx
     ·simp at hx;subst hx;exact⟨hm.id,⟨hm.ten,hm.txt⟩,hm.abl,hm.Z8⟩
    ·rw[hv];intro x hx;rcases List.mem_append.1 hx with hx|hx
     ·exact hs.pos x hx
     ·simp at hx;subst hx;exact hc
   refine⟨[(c, [97,99,99,32]++bZ m.id)],by rw[Aw];rfl,_, ?_,hS.rel⟩;rw[hv,aD];exact .one (.acc (vp [97,99,99] (by decide) m.id) (Np hs.fair hm.id hni)) (by have:=gz m.id;simp only[aH,List.length_cons,List.length_nil];omega)
theorem rj(c:Int):(s.conn c).vw=s.vw:=by unfold conn;split<;>rfl
theorem mL(c:Int):(s.conn c).out=s.out:=by unfold conn;split<;>rfl
theorem Bu(hs:Sound s)(c:Int)(hc:0<=c){m:Mg}(hm:Said msg m):Told msg s (s.message c m):=by
 unfold message;split
 ·exact El hs c hc hm
 split
 ·split
  ·exact Flow.told hs (Flow.quiet (vp [110,111,110,101] (by decide) m.id) (.inr (.inr (.inl rfl))) (by have:=gz m.id;simp only[aH,List.length_cons,List.length_nil];omega))
  ·rename_i r hr;split
   ·rename_i he;have he:r.conn=c:=by simpa using he
    subst he;exact Flow.told hs (CP (.inr rfl) hr (t:= [103,111,110,101,32]++bZ m.id) rfl rfl)
   ·exact Flow.told hs (Flow.quiet (vp [110,111,110,101] (by decide) m.id) (.inr (.inr (.inl rfl))) (by have:=gz m.id;simp only[aH,List.length_cons,List.length_nil];omega))
 split
 ·split
  ·exact Flow.told hs (Flow.same rfl)
  ·dsimp only;split
   ·exact Flow.told hs (by rw[rj];exact Flow.same (mL c))
   ·refine Flow.told hs ?_;have e:({s.conn c with wait:=(s.conn c).wait++ [c]}:St).vw=s.vw:=rj c;rw[e];exact Flow.same (mL c)
 split
 ·exact Flow.told hs (Flow.same rfl)
 split
 ·rename_i hk;split
  ·exact Flow.told hs (Flow.same rfl)
  ·rename_i i _;split
   ·exact Flow.told hs (Flow.same rfl)
   ·rename_i r hr;refine Flow.told hs ?_;obtain⟨e,a,b,h1,h2⟩:=Ak hr;have hv:(((s.say r.conn ([118,97,108,32]++bZ m.id++ [32]++m.txt)).aZ i).shut m.id).vw=a++b:=by rw[tU,nA];exact h2
    rw[hv,h1];refine Flow.trans (q1:=a++b) (s1:=s.say r.conn ([118,97,108,32]++bZ m.id++ [32]++m.txt)) ⟨[(r.conn, [118,97,108,32]++bZ m.id++ [32]++m.txt)],rfl,fun O hO=> ?_⟩ ((i6 _).trans (tS _));obtain⟨j,hj,B0⟩:=hO.drop;have e2:(Rq.vw r).id=m.id:=e;rw[e2]at hj;obtain⟨nn,hd⟩:=hm.done hk;refine⟨_, .one (.val ?_ hd hm.tl hj) (by have:=gz m.id;have:=hm.Z8;simp only[aH,List.length_cons,List.length_nil];omega),B0⟩;rw[show [118,97,108,32]++bZ m.id++ [32]++m.txt= [118,97,108]++32::(bZ m.id++32::m.txt)by simp,dQ (by decide),dQ (pU _),gS hm.txt]
 split
 ·split
  ·exact Flow.told hs (Flow.same rfl)
  ·rename_i i _;refine Flow.told hs ?_;refine Flow.trans (q1:=(s.aZ i).vw) ?_ (pP _ _);rw[nA];exact i6 _
 split
 ·dsimp only;refine Flow.told hs ?_;rw[MP];have e:(idle {s.conn c with aq:=aK (fun x=>x.n==c) (fun x=>{x with drains:=true}) (s.conn c).aq} c).vw=s.vw:=rj c;rw[e];exact Flow.trans (q1:=s.vw) (s1:=idle {s.conn c with aq:=aK (fun x=>x.n==c) (fun x=>{x with drains:=true}) (s.conn c).aq} c) (Flow.same (mL c)) (Cq _)
 ·exact Flow.told hs (Flow.same rfl)
theorem line_told(hs:Sound s)(c:Int)(hc:0<=c)(t:Bs):Told t s (s.line c (aG.line t)):=by
 unfold line;split
 ·rename_i h;exact(Bu hs c hc (said_of h)).trans qs
 ·exact Flow.told hs (Flow.quiet (show bB 32 [98,97,100]= [[98,97,100]]by decide) (.inr (.inr (.inr (.inl rfl)))) (show([98,97,100]:Bs).length<=1000 by decide))
end St
end Mc
namespace Mc
open bG
variable{t:Bs}{s:St}{n:Nat}{c:Int}
theorem nZ(n:Int)(h0:0<=n)(h1:n<=255):(10:UInt8)∉aG.two n:=by
 have h: ∀n:Fin 256,(10:UInt8)∉aG.two (n.val:Int):=by decide+kernel
 have:=h ⟨n.toNat,by omega⟩;rw[show((⟨n.toNat,by omega⟩:Fin 256).val:Int)=n from Int.toNat_of_nonneg h0]at this;exact this
theorem ym(h:(10:UInt8)∉t):(10:UInt8)∉aG.line t:=by unfold aG.line aG.hex;have b:=fun j=>aG.gQ t t.length j;simp only[List.mem_append,not_or];exact⟨⟨h,by decide⟩,⟨⟨nZ _ (b 0).1 (b 0).2,nZ _ (b 1).1 (b 1).2⟩,nZ _ (b 2).1 (b 2).2⟩,nZ _ (b 3).1 (b 3).2⟩
def NR(s:St):Prop:= ∀r∈s.rs,r= []
theorem NR.more{s':St}(h:NR s)(e:s'.rs=s.rs∨s'.rs=s.rs++ [[]]):NR s':=by
 intro r hr;rcases e with e|e
 ·rw[e]at hr;exact h r hr
 ·rw[e]at hr;rcases List.mem_append.1 hr with hr|hr
  ·exact h r hr
  ·simpa using hr
theorem NR.rest(h:NR s)(c:Int):s.cW c= []:=by
 unfold St.cW;split
 ·rename_i x hx;exact h _ (az.2 ⟨x,cI hx,rfl⟩)
 ·rfl
theorem NR.line(h:NR s)(c:Int)(l:Bs):NR (s.line c l):=by
 unfold St.line;split
 ·intro r hr;rw[St.nh]at hr;exact h.more (St.yt c _) r hr
 ·exact h
theorem NR.set(h:NR s)(c:Int):NR (s.bW c []):=by
 intro r hr;obtain⟨x,hx,rfl⟩:=az.1 hr;rcases bJ hx with hx|⟨y,hy,_,e⟩
 ·exact h _ (az.2 ⟨x,hx,rfl⟩)
 ·rw[e]
theorem IG(h:Good n s):(s.vw.map (·.id)).Nodup:=by have:=h.inv.rid;unfold St.ks at this;unfold St.vw;rw[aB]at this⊢;exact this
structure Kept(n:Nat)(s:St):Prop where
 good:Good n s
 fair: ∀x∈s.vw,x.fair
 pos: ∀x∈s.vw,0<=x.conn
 nr:NR s
 out:s.out= []
theorem Kept.sound(h:Kept n s):Sound s:=⟨IG h.good,h.fair,h.pos⟩
theorem yD{O:Op}(hg:Good n s)(hr:NR s)(h:Rel s.vw O):Kept n s.told:=⟨hg.told,h.fair,fun _ hx=>h.pos hx,hr,rfl⟩
theorem wo(h:NR s)(c:Int)(sZ:(10:UInt8)∉t):s.feed c (aG.line t++ [10])=(((s.conn c).line c (aG.line t)).conn c).bW c []:=by
 have e:bB 10 (aG.line t++ [10])= [aG.line t, []]:=by rw[show aG.line t++ [10]=aG.line t++10:: []from rfl,dQ (ym sZ)];rfl
 unfold St.feed St.rP;rw[e,h.rest];rfl
theorem Kept.tell(h:Kept n s)(hc:0<=c)(sZ:(10:UInt8)∉t)(hg:Good (n+1) (s.feed c (aG.line t++ [10]))): ∃O',Folds t (s.vw.map Vw.op) (s.feed c (aG.line t++ [10])).out O'∧Rel (s.feed c (aG.line t++ [10])).told.vw O'∧Kept (n+1) (s.feed c (aG.line t++ [10])).told:=by
 have hv:=St.rj (s:=s) c;have hs:Sound (s.conn c):=⟨by rw[hv];exact h.sound.nd,by rw[hv];exact h.fair,by rw[hv];exact h.pos⟩;obtain⟨l,e,O',f,r⟩:=St.line_told hs c hc t;have BX:NR (s.conn c):=h.nr.more (St.lM c);have Rm:=(BX.line c (aG.line t)).more (St.lM (s:=(s.conn c).line c (aG.line t)) c);have hn3:=Rm.set c;have ho:(s.feed c (aG.line t++ [10])).out=l:=by rw[wo h.nr c sZ];show(((s.conn c).line c (aG.line t)).conn c).out=l;rw[St.mL,e,St.mL,h.out];rfl
 have hv2:(s.feed c (aG.line t++ [10])).vw=((s.conn c).line c (aG.line t)).vw:=by rw[wo h.nr c sZ];exact St.rj c
 have hr:Rel (s.feed c (aG.line t++ [10])).vw O':=by rw[hv2];exact r
 refine⟨O',by rw[ho,<-hv];exact f,hr,yD hg ?_ hr⟩;rw[wo h.nr c sZ];exact hn3
theorem Kept.tick(h:Kept n s)(msg:Bs): ∃O',Folds msg (s.vw.map Vw.op) s.tick.out O'∧Rel s.tick.told.vw O'∧Kept (n+1) s.tick.told:=by obtain⟨l,e,O',f,r⟩:=Flow.told h.sound (St.Lv (msg:=msg) (s:=s));refine⟨O',by rw[e,h.out];exact f,r,yD h.good.tick (fun x hx=>h.nr x (by rw[<-St.Jv];exact hx)) r⟩
def gJ(c:Int)(O:Op):Op:=O.map fun p=>if p.2=c then(p.1,-1)else p
theorem Ae{c:Int}(hc:0<=c): ∀(O:Op),live (gJ c O)=(live O).filter fun p=>p.2 !=c
 | []=>rfl
 |p::O=>by
  have ih:=Ae hc O;unfold gJ live at ih⊢;rw[List.map_cons];by_cases hp:p.2=c
  ·rw[if_pos hp,List.filter_cons_of_neg (by simp),ih];by_cases h0:0<=p.2
   ·rw[List.filter_cons_of_pos (by simpa using h0),List.filter_cons_of_neg (by simpa using hp)]
   ·rw[List.filter_cons_of_neg (by simpa using h0)]
  ·rw[if_neg hp];by_cases h0:0<=p.2
   ·rw[List.filter_cons_of_pos (by simpa using h0),List.filter_cons_of_pos (by simpa using h0),List.filter_cons_of_pos (by simpa using hp),ih]
   ·rw[List.filter_cons_of_neg (by simpa using h0),List.filter_cons_of_neg (by simpa using h0),ih]
theorem Kept.close(h:Kept n s)(msg:Bs)(hc:0<=c): ∃O',Folds msg (gJ c (s.vw.map Vw.op)) (s.close c).out O'∧Rel (s.close c).told.vw O'∧Kept n (s.close c).told:=by
 obtain⟨l,e,f⟩:=St.FR (msg:=msg) c (IG h.good);have hr:Rel (St.others c s.vw) (gJ c (s.vw.map Vw.op)):=by
  refine⟨?_,fun x hx=>h.fair x (aL.1 hx).1,fun i j p p' Rk hi hj e=> ?_⟩
  ·rw[Ae hc,h.sound.rel.lv];unfold St.others;rw[List.filter_map];rfl
  ·unfold gJ at hi hj;rw[List.getElem?_map]at hi hj;obtain⟨a,ha,rfl⟩:=Option.map_eq_some_iff.1 hi;obtain⟨b,hb,rfl⟩:=Option.map_eq_some_iff.1 hj;have ea:(if a.2=c then(a.1,(-1:Int))else a).1=a.1:=by split<;>rfl
   have eb:(if b.2=c then(b.1,(-1:Int))else b).1=b.1:=by split<;>rfl
   rw[ea,eb]at e;rw[ea];exact h.sound.rel.dist i j a b Rk ha hb e
 obtain⟨O',f1,r1⟩:=f _ hr;refine⟨O',by rw[e,h.out];exact f1,r1,yD (h.good.close c) (fun x hx=>h.nr x (St.Cu c x hx)) r1⟩
variable{n:Nat}{s:St}{t:Bs}{c:Int}
theorem QQ(c:Int)(O:Op):(gJ c O).length=O.length:=aF _
theorem tT: ∀{q:List Vw},(∀x∈q,0<=x.conn)->gJ (-1) (q.map Vw.op)=q.map Vw.op
 | [],_=>rfl
 |x::q,h=>by
  have ih:=tT (q:=q) fun y hy=>h y (aV _ hy);have h0:=h x bY;unfold gJ at ih⊢;rw[List.map_cons,List.map_cons,ih];have e: ¬x.op.2= -1:=by show¬x.conn= -1;omega
  rw[if_neg e]
theorem Kept.len(h:Kept n s):(s.vw.map Vw.op).length<=12*n:=by have:=h.good.sz;unfold St.sz at this;unfold St.vw;rw[aF,aF];omega
theorem wB(h:Good n s):s.out.length<=12*n:=by have:=h.sz;unfold St.sz at this;omega
structure Rnd(msg:Bs)(n:Nat)(s:St)(cl:Int)(outs:List (Int×Bs))(s2:St):Prop where
 ex: ∃O',Folds msg (gJ cl (s.vw.map Vw.op)) outs O'∧live O'=s2.vw.map Vw.op
 kept:Kept (n+1) s2
 len:outs.length<=12*(n+1)
theorem Kept.le{m:Nat}(h:Kept n s)(hm:n<=m):Kept m s:=⟨h.good.le hm,h.fair,h.pos,h.nr,h.out⟩
theorem CD(sZ:(10:UInt8)∉t):(bB 10 (aG.line t++ [10])).length=2:=by
 have e:bB 10 (aG.line t++ [10])= [aG.line t, []]:=by rw[show aG.line t++ [10]=aG.line t++10:: []from rfl,dQ (ym sZ)];rfl
 rw[e];rfl
theorem Kept.QY(h:Kept n s)(hc:0<=c)(sZ:(10:UInt8)∉t):Rnd t n s (-1) (s.feed c (aG.line t++ [10])).out (s.feed c (aG.line t++ [10])).told:=by have hg:=h.good.feed c (aG.line t++ [10]) (af 1) (Nat.le_of_eq (CD sZ));obtain⟨O',f,r,k⟩:=h.tell hc sZ hg;exact⟨⟨O',by rw[tT h.pos];exact f,r.lv⟩,k,wB hg⟩
theorem Kept.Q1(h:Kept n s)(msg:Bs):Rnd msg n s (-1) s.tick.out s.tick.told:=by obtain⟨O',f,r,k⟩:=h.tick msg;exact⟨⟨O',by rw[tT h.pos];exact f,r.lv⟩,k,wB h.good.tick⟩
theorem Kept.JJ(h:Kept n s)(msg:Bs)(hc:0<=c):Rnd msg n s c (s.close c).out (s.close c).told:=by obtain⟨O',f,r,k⟩:=h.close msg hc;exact⟨⟨O',f,r.lv⟩,k.le (by omega),ar (wB (h.good.close c)) (by omega)⟩
