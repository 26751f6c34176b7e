import Derived.Test.YtffamlbkmjmipaaGreatDoorC09
import Derived.Test.YtffamlbkmjmipaaGreatDoorC14
set_option maxHeartbeats 8000000
set_option maxRecDepth 100000
namespace Go.Proofs.YtffamlbkmjmipaaGreatDoor
namespace Mc
open bA
structure ic.ok(c:ic):Prop where
 le:1<=c.le∧c.le<=20
 re:0<=c.re∧c.re<=5
 ca:1<=c.ca∧c.ca<=5
 bo:1<=c.bo∧c.bo<=8
 he:0<=c.he∧c.he<=20
structure Rq.ok(P:Int)(q:Nat)(r:Rq):Prop where
 id:0<=r.id∧r.id<=999999
 n:0<=r.n∧r.n+q<=P
 left:0<=r.left∧r.left<=5
 ten:r.ten.length<=64
 txt:r.txt.length<=64
structure At.ok(P:Int)(q:Nat)(a:At):Prop where
 id:0<=a.id∧a.id<=999999
 n:0<=a.n∧a.n+q<=P
 eJ:0<=a.eJ∧a.eJ<=P
 cS:0<=a.cS∧a.cS<=P+20
structure Bd(P:Int)(s:St):Prop where
 c:s.c.ok
 now:0<=s.now∧s.now<=P
 rq: ∀r∈s.reqs,r.ok P s.wait.length
 at': ∀a∈s.ag,a.ok P s.wait.length
namespace Bd
variable{P P':Int}{s s':St}
theorem sub(h:Bd P s)(h1:s'.c=s.c)(h2:s'.now=s.now)(h3: ∀r∈s'.reqs,r∈s.reqs)(h4: ∀a∈s'.ag,a∈s.ag)(h5:s'.wait.length<=s.wait.length):Bd P s':=
 ⟨h1▸h.c,h2▸h.now,fun r hr=>let x:=h.rq r (h3 r hr);⟨x.id,⟨x.n.1,by have:=x.n.2;omega⟩,x.left,x.ten,x.txt⟩,
  fun a ha=>let x:=h.at' a (h4 a ha);⟨x.id,⟨x.n.1,by have:=x.n.2;omega⟩,x.eJ,x.cS⟩⟩
theorem up(h:Bd P s)(hp:P<=P'):Bd P' s:=
 ⟨h.c,⟨h.now.1,by have:=h.now.2;omega⟩,fun r hr=>let x:=h.rq r hr;⟨x.id,⟨x.n.1,by have:=x.n.2;omega⟩,x.left,x.ten,x.txt⟩,
  fun a ha=>let x:=h.at' a ha;⟨x.id,⟨x.n.1,by have:=x.n.2;omega⟩,⟨x.eJ.1,by have:=x.eJ.2;omega⟩,⟨x.cS.1,by have:=x.cS.2;omega⟩⟩⟩
theorem say(h:Bd P s)(c:Int)(t:Bs):Bd P (s.say c t):=⟨h.c,h.now,h.rq,h.at'⟩
theorem told(h:Bd P s):Bd P s.told:=⟨h.c,h.now,h.rq,h.at'⟩
theorem ak(h:Bd P s)(l:List Cn):Bd P {s with ak:=l}:=⟨h.c,h.now,h.rq,h.at'⟩
theorem conn(h:Bd P s)(c:Int):Bd P (s.conn c):=by unfold St.conn;split;(·exact h);(·exact h.ak _)
theorem dR(h:Bd P s)(c:Int):Bd P (s.dR c):=by obtain⟨_,e2,_,e4,e5,e6,e7⟩:=St.sP (s:=s) c;exact h.sub e6 e7 (fun r hr=>e4▸hr) (fun a ha=>e2▸ha) (by rw[e5];exact af _)
theorem aU(h:Bd P s)(i:Nat):Bd P (s.aU i):=by obtain⟨_,e2,_,e4,e5,e6,e7⟩:=St.dC (s:=s) i;exact h.sub e6 e7 (fun r hr=>e4▸hr) (fun a ha=>List.mem_of_mem_eraseIdx (e2▸ha)) (by rw[e5];exact af _)
theorem idle(h:Bd P s)(c:Int):Bd P (s.idle c):=h.sub rfl rfl (fun _ h=>h) (fun _ h=>h) (List.length_filter_le ..)
theorem aT(h:Bd P s)(id:Int)(f:Bool):Bd P (s.aT id f):=by obtain⟨_,e2,e3,e4,_,_,e7,e8⟩:=St.fA (s:=s) id f;exact h.sub e7 e8 (fun r hr=>e3▸hr) (fun a ha=>e2▸ha) (by rw[e4];exact af _)
theorem left(h:Bd P s)(id:Int):Bd P (s.left id):=⟨h.c,h.now,h.rq,h.at'⟩
theorem stopped{id:Int}(h:Bd P s)(hs:St.dw s s' id):Bd P s':=h.sub hs.cfg hs.now (fun r hr=>hs.reqs▸hr) (fun a ha=>hs.sub.subset ha) (by rw[hs.wait];exact af _)
theorem shut(h:Bd P s)(id:Int):Bd P (s.shut id):=by have h1:=(h.stopped (St.iI s.ag.length s id)).left id;exact h1.sub rfl rfl (fun r hr=>(dW _ _).subset hr) (fun _ h=>h) (af _)
theorem bg(h:Bd P s)(id:Int)(f:Rq->Rq)(hf: ∀r,r∈s.reqs->(r.id==id)=true->(f r).ok P s.wait.length):Bd P (s.bg id f):=
 ⟨h.c,h.now,fun r hr=>by
  rcases bR hr with hr|⟨y,hy,hp,rfl⟩
  ·exact h.rq r hr
  ·exact hf y hy hp,h.at'⟩
theorem KZ(hi:Inv s){id:Int}{r r':Rq}(h:s.req id=some r)(h':r'∈s.reqs)(e:(r'.id==id)=true):r'=r:=by
 obtain⟨hm,hid,_⟩:=St.kJ h;have hn:=hi.rid;unfold St.ks at hn;rw[az]at hn;obtain⟨i,vk,ei⟩:=List.getElem_of_mem hm;obtain⟨j,Qw,ej⟩:=List.getElem_of_mem h';have h2:=List.pairwise_iff_getElem.1 hn;have e':r'.id=r.id:=by rw[hid];simpa using e
 rcases Nat.lt_trichotomy i j with h|h|h
 ·exact absurd (by rw[List.getElem_map,List.getElem_map,ei,ej];exact e'.symm) (h2 i j (by simpa using vk) (by simpa using Qw) h)
 ·subst h;rw[<-ei,<-ej]
 ·exact absurd (by rw[List.getElem_map,List.getElem_map,ei,ej];exact e') (h2 j i (by simpa using Qw) (by simpa using vk) h)
theorem again(h:Bd P s)(hi:Inv s)(id:Int)(c:Bool):Bd P (s.again id c):=by
 unfold St.again;split
 ·exact h
 ·split
  ·exact h
  ·rename_i r hr;split
   ·exact(h.say _ _).shut _
   ·rename_i hc;split
    ·refine(h.bg id _ (fun r' oK e=> ?_)).aT _ _;have e1:=KZ hi hr oK e;subst e1;have x:=h.rq r' oK;have hl:r'.left≠0:=by rename_i Qk;intro e0;apply hc;simp[Qk,e0]
     exact⟨x.id,x.n,by have:=x.left;exact⟨by show 0<=r'.left-1;omega,by show r'.left-1<=5;omega⟩,x.ten,x.txt⟩
    ·exact h.aT _ _
theorem give(h:Bd P s){c:Int}{ws:List Int}(hw:s.wait=c::ws)(k:Nat):Bd P (s.give c ws k):=by
 unfold St.give;split
 ·exact h
 ·split
  ·exact h
  ·split
   ·exact h
   ·rename_i id _ _ r hr;have hlen:s.wait.length=ws.length+1:=by rw[hw];rfl
    apply say;refine⟨h.c,h.now,fun r' oK=> ?_,fun a ha=> ?_⟩
    ·rcases bR oK with oK|⟨y,hy,hp,rfl⟩
     ·have x:=h.rq r' oK;exact⟨x.id,⟨x.n.1,by have:=x.n.2;show r'.n+(ws.length:Int)<=P;omega⟩,x.left,x.ten,x.txt⟩
     ·have x:=h.rq y hy;exact⟨x.id,⟨by have:=x.n.1;show 0<=y.n+1;omega,by have:=x.n.2;show y.n+1+(ws.length:Int)<=P;omega⟩,x.left,x.ten,x.txt⟩
    ·rcases List.mem_append.1 ha with ha|ha
     ·have x:=h.at' a ha;exact⟨x.id,⟨x.n.1,by have:=x.n.2;show a.n+(ws.length:Int)<=P;omega⟩,x.eJ,x.cS⟩
     ·obtain rfl:=cC.1 ha;obtain⟨hm,hid,_⟩:=St.kJ hr;have x:=h.rq r hm;have:=h.now;have:=h.c.le;refine⟨hid▸x.id,⟨by have:=x.n.1;show 0<=r.n+1;omega,by have:=x.n.2;show r.n+1+(ws.length:Int)<=P;omega⟩,h.now, ?_, ?_⟩
      ·show 0<=s.now+s.c.le;omega
      ·show s.now+s.c.le<=P+20;omega
theorem bK: ∀(f:Nat) {s:St},Bd P s->Inv s->Bd P (St.bK f s)
 |0,_,h,_=>h
 |f+1,s,h,hi=>by
  unfold St.bK;split
  ·exact h
  ·rename_i c ws hw;split
   ·exact h
   ·exact bK f (h.give hw _) (St.jV hi c ws (by rw[hw];exact List.sublist_cons_self ..) _)
theorem serve(h:Bd P s)(hi:Inv s):Bd P s.serve:=bK _ h hi
theorem bV: ∀(f:Nat) {s:St},Bd P s->Inv s->Bd P (St.bV f s)
 |0,_,h,_=>h
 |f+1,s,h,hi=>by
  unfold St.bV;split
  ·exact h
  ·split
   ·exact h
   ·exact bV f (((h.say _ _).aU _).again (St.ba (St.bM hi _ _) _) _ _) (St.dt (St.ba (St.bM hi _ _) _) _ _)
theorem bG(h:Bd P s)(a:At):Bd P (s.bG a):=by
 unfold St.bG;split
 ·exact h
 ·split
  ·exact(h.bg a.id (fun r=>{r with hedged:=true}) (fun r hr _=>let x:=h.rq r hr;⟨x.id,x.n,x.left,x.ten,x.txt⟩)).aT _ _
  ·exact h
theorem fold: ∀(l:List At) {s:St},Bd P s->Bd P (l.foldl St.bG s)
 | [],_,h=>h
 |a::l,_,h=>fold l (h.bG a)
theorem tick(h:Bd P s)(hi:Inv s):Bd (P+1) s.tick:=by
 have h1:Bd (P+1) {s with now:=s.now+1}:=by have h0:=h.up (P':=P+1) (by omega);have:=h.now;exact⟨h0.c,⟨by show 0<=s.now+1;omega,by show s.now+1<=P+1;omega⟩,h0.rq,h0.at'⟩
 have i1:=St.jz hi (s.now+1);exact(fold _ (bV _ h1 i1)).serve (St.iQ (St.gG _ i1))
theorem aO: ∀(f:Nat) {s:St} (c:Int),Bd P s->Bd P (St.aO f s c)
 |0,_,_,h=>h
 |f+1,s,c,h=>by
  unfold St.aO;split
  ·exact h
  ·exact aO f c ((h.stopped (St.dK _ _ _ _ _)).shut _)
theorem aN: ∀(f:Nat) {s:St} (c:Int),Bd P s->Inv s->Bd P (St.aN f s c)
 |0,_,_,h,_=>h
 |f+1,s,c,h,hi=>by
  unfold St.aN;split
  ·exact h
  ·split
   ·exact h
   ·exact aN f c ((h.aU _).again (St.ba hi _) _ _) (St.dt (St.ba hi _) _ _)
theorem close(h:Bd P s)(hi:Inv s)(c:Int):Bd P (s.close c):=by have i1:=St.iU hi c;have i2:Inv ({s.idle c with ak:=(s.idle c).ak.filter (·.n !=c)}:St):=⟨i1.rid,i1.bB,i1.ring,i1.dV,i1.once,(List.filter_sublist.map _).nodup i1.cn,i1.wt⟩;have h2:=(h.idle c).ak ((s.idle c).ak.filter (·.n !=c));exact(aN _ c (aO _ c h2) (St.cM _ c i2)).serve (St.dS _ c (St.cM _ c i2))
structure bA(m:Mg):Prop where
 id:0<=m.id∧m.id<=999999
 ten:m.ten.length<=64
 txt:m.txt.length<=64
theorem bT(h:Bd P s)(c:Int){m:Mg}(hm:bA m)(hp:(s.wait.length:Int)<=P):Bd P (s.bT c m):=by
 unfold St.bT;split
 ·exact h.say _ _
 ·split
  ·exact h.say _ _
  ·apply Bd.aT;apply Bd.say;refine⟨h.c,h.now,fun r hr=> ?_,h.at'⟩;rcases List.mem_append.1 hr with hr|hr
   ·exact h.rq r hr
   ·obtain rfl:=cC.1 hr;have:=h.c.re;exact⟨hm.id,⟨Int.le_refl _,by show 0+(s.wait.length:Int)<=P;omega⟩,this,hm.ten,hm.txt⟩
theorem message(h:Bd P s)(hi:Inv s)(c:Int){m:Mg}(hm:bA m)(hp:(s.wait.length:Int)<=P):Bd (P+1) (s.message c m):=by
 have h0:=h.up (P':=P+1) (by omega);unfold St.message;split
 ·exact(h.bT c hm hp).up (by omega)
 split
 ·split
  ·exact h0.say _ _
  ·split
   ·exact(h0.say _ _).shut _
   ·exact h0.say _ _
 split
 ·split
  ·exact h0
  ·dsimp only;have e:(s.conn c).wait=s.wait:=by unfold St.conn;split<;>rfl
   split
   ·exact h0.conn c
   ·have h1:=h.conn c;have h2:=h0.conn c;have hl:((s.conn c).wait++ [c]).length=(s.conn c).wait.length+1:=by simp
    refine⟨h2.c,h2.now,fun r hr=> ?_,fun a ha=> ?_⟩
    ·have x:=h1.rq r hr;exact⟨x.id,⟨x.n.1,by have:=x.n.2;show r.n+(((s.conn c).wait++ [c]).length:Int)<=P+1;omega⟩,x.left,x.ten,x.txt⟩
    ·have x:=h1.at' a ha;exact⟨x.id,⟨x.n.1,by have:=x.n.2;show a.n+(((s.conn c).wait++ [c]).length:Int)<=P+1;omega⟩,⟨x.eJ.1,by have:=x.eJ.2;omega⟩,⟨x.cS.1,by have:=x.cS.2;omega⟩⟩
 split
 ·refine⟨h0.c,h0.now,h0.rq,fun a ha=> ?_⟩;obtain⟨x,hx,rfl⟩:=ax.1 ha;have y:=h0.at' x hx;have:=h.now;have:=h.c.le;split
  ·exact⟨y.id,y.n,y.eJ,by show 0<=s.now+s.c.le;omega,by show s.now+s.c.le<=P+1+20;omega⟩
  ·exact y
 split
 ·split
  ·exact h0
  ·split
   ·exact h0
   ·exact((h0.say _ _).aU _).shut _
 split
 ·split
  ·exact h0
  ·exact(h0.aU _).again (St.ba hi _) _ _
 split
 ·exact(((h0.conn c).ak _).idle c).dR c
 ·exact h0
end Bd
end Mc
namespace Mc
open bA
variable{l:List UInt8}
structure P0(x:Mg):Prop where
 kind:x.kind=fQ∨x.kind=gF∨x.kind=dI∨x.kind=dH∨x.kind=di∨x.kind=kFail∨x.kind=cR
 bd:Bd.bA x
theorem Kh{i n:Nat}{c:Int}(h:gz l i=some (c,n)):n<=3:=by
 unfold gz at h;split at h
 ·cases h;omega
 ·split at h
  ·split at h
   ·cases h;omega
   ·cases h
  ·split at h
   ·split at h
    ·cases h;omega
    ·cases h
   ·cases h
theorem Av{la:Nat->Option (Int×Nat)}{len:Nat}(hla: ∀i c n,la i=some (c,n)->n<=3): ∀(f i:Nat) (xs:List Int),dJ la len f i=some xs->len<=i+3*xs.length
 |0,i,xs,h=>by
  unfold dJ at h;split at h
  ·cases h
  ·cases h;omega
 |f+1,i,xs,h=>by
  unfold dJ at h;split at h
  ·split at h
   ·cases h
   ·rename_i c n hn;obtain⟨ys,hy,rfl⟩:=Option.map_eq_some_iff.1 h;have h1:=Av hla f (i+n) ys hy;have h2:=hla _ _ _ hn;simp;omega
  ·cases h;omega
theorem uE{p:Int->Bool}{most:Nat}(h:fL p most l=true):l.length<=3*most:=by
 unfold fL at h;split at h
 ·rename_i xs hx;have h1:=Av (fun i c n hn=>Kh (l:=l) hn) _ _ _ hx;simp at h;omega
 ·cases h
theorem xU(l:List UInt8):0<=(dE l).1∧(dE l).1<=999999:=by
 unfold dE;split
 ·rename_i h;simp only[a8,decide_eq_true_eq]at h;obtain⟨⟨⟨h1,h6⟩,_⟩,hd⟩:=h;have hb:=Rl l hd;have RI:((10:Int) ^l.length)<=10 ^6:=by
   have:(10 ^l.length:Nat)<=10 ^6:=Nat.pow_le_pow_right (by omega) h6;exact_mod_cast this
  dsimp only;have:((10:Int) ^6)=1000000:=by decide
  omega
 ·exact⟨by decide,by decide⟩
theorem N6(h:(fU l).2=true):P0 (fU l).1:=by
 unfold fU at h⊢;generalize cD 32 l=ws at*;unfold bm at h⊢;split at h
 ·cases h
 ·rename_i k;simp only[Bool.or_eq_true,beq_iff_eq]at h;refine⟨?_,⟨Int.le_refl 0,(by decide:(0:Int)<=999999)⟩,by simp,by simp⟩;rcases h with(h|h)|h<;>simp[h]
 ·rename_i k a;split at h
  ·rename_i hk;rw[if_pos hk];exact⟨by simp[hk],xU a,by simp,by simp⟩
  ·cases h
 ·rename_i k a b;split at h
  ·rename_i hk;rw[if_pos hk];exact⟨by simp[hk],xU a,by simp,by simp⟩
  ·cases h
 ·rename_i k a b t;split at h
  ·rename_i hk;rw[if_pos hk];simp only[a8]at h;exact⟨by simp[hk],xU a,by simp,au (uE h.2) (by omega)⟩
  ·split at h
   ·rename_i hk Z2;rw[if_neg hk,if_pos Z2];simp only[a8]at h;exact⟨by simp[Z2],xU a,au (uE h.1.2) (by omega),au (uE h.2) (by omega)⟩
   ·cases h
 ·cases h
def ju(l:Bs):Bool:=fG l &&(fU (dn l)).2
def ui(l:Bs):Mg:=(fU (dn l)).1
theorem KA{l:Bs}(h:ju l=true):P0 (ui l):=N6 (by unfold ju at h;simp at h;exact h.2)
end Mc
namespace Mc
open bA
namespace St
variable{s:St}
def bad:Bs:= [98,97,100]
def line(s:St)(c:Int)(l:Bs):St:=if ju l then(s.message c (ui l)).serve else s.say c bad
def cu(s:St)(c:Int):Bs:=match s.ak.find? (·.n==c)with|some x=>x.rest|none=> []
def gW(rest:Bs):List Bs->List Bs
 | []=> []
 |x::r=>(rest++x)::r
def bD(s:St)(c:Int)(r:Bs):St:={s with ak:=aA (fun x=>x.n==c) (fun x=>{x with rest:=r}) s.ak}
def oQ(s:St)(c:Int)(b:Bs):List Bs:=gW (s.cu c) (cD 10 b)
def lines(s:St)(c:Int)(ls:List Bs):St:=ls.foldl (fun s l=>s.line c l) s
def feed(s:St)(c:Int)(b:Bs):St:=(((s.conn c).lines c (s.oQ c b).dropLast).conn c).bD c (((s.oQ c b).getLastD []).take 81)
def rs(s:St):List Bs:=s.ak.map (·.rest)
theorem C1(c:Int)(t:Bs):(s.say c t).rs=s.rs:=rfl
theorem Iw(c:Int):(s.dR c).rs=s.rs:=by
 unfold dR;split
 ·exact bp (fun x:Cn=>x.n==c) (fun x:Cn=>{x with gone:=true}) (·.rest) (fun _=>rfl) s.ak
 ·rfl
theorem lO(i:Nat):(s.aU i).rs=s.rs:=by
 unfold aU;split
 ·rw[Iw];rfl
 ·rfl
theorem Bj: ∀(f:Nat) (s:St) (id:Int),(stops f s id).rs=s.rs
 |0,_,_=>rfl
 |f+1,s,id=>by
  unfold stops;split
  ·rfl
  ·split
   ·rfl
   ·rw[Bj f,lO,C1]
theorem sB(id:Int):(s.shut id).rs=s.rs:=Bj _ s id
theorem uD(id:Int)(f:Bool):(s.aT id f).rs=s.rs:=by unfold aT;split<;>rfl
theorem sK(id:Int)(c:Bool):(s.again id c).rs=s.rs:=by
 unfold again;split
 ·rfl
 ·split
  ·rfl
  ·split
   ·rw[sB,C1]
   ·rw[uD];split<;>rfl
theorem M5(c:Int)(ws:List Int)(k:Nat):(s.give c ws k).rs=s.rs:=by
 unfold give;split
 ·rfl
 ·split
  ·rfl
  ·split<;>rfl
theorem wM: ∀(f:Nat) (s:St),(bK f s).rs=s.rs
 |0,_=>rfl
 |f+1,s=>by
  unfold bK;split
  ·rfl
  ·split
   ·rfl
   ·rw[wM f,M5]
theorem pw:s.serve.rs=s.rs:=wM _ _
theorem GL(c:Int)(m:Mg):(s.bT c m).rs=s.rs:=by
 unfold bT;split
 ·rfl
 ·split
  ·rfl
  ·rw[uD];rfl
theorem oq(c:Int):(s.conn c).rs=s.rs∨(s.conn c).rs=s.rs++ [[]]:=by
 unfold conn;split
 ·exact .inl rfl
 ·right;unfold rs;rw[aB];rfl
theorem CP(c:Int)(m:Mg):(s.message c m).rs=s.rs∨(s.message c m).rs=s.rs++ [[]]:=by
 unfold message;split
 ·exact .inl (GL c m)
 split
 ·split
  ·exact .inl rfl
  ·split
   ·exact .inl (by rw[sB];rfl)
   ·exact .inl rfl
 split
 ·split
  ·exact .inl rfl
  ·dsimp only;split
   ·exact oq c
   ·exact oq (s:=s) c
 split
 ·exact .inl rfl
 split
 ·split
  ·exact .inl rfl
  ·split
   ·exact .inl rfl
   ·exact .inl (by rw[sB,lO];rfl)
 split
 ·split
  ·exact .inl rfl
  ·exact .inl (by rw[sK,lO])
 split
 ·dsimp only;rw[Iw];have e:(St.idle {s.conn c with ak:=aA (fun x=>x.n==c) (fun x=>{x with drains:=true}) (s.conn c).ak} c).rs=(s.conn c).rs:=bp (fun x:Cn=>x.n==c) (fun x:Cn=>{x with drains:=true}) (·.rest) (fun _=>rfl) (s.conn c).ak;rw[e];exact oq c
 ·exact .inl rfl
theorem Ai: ∀(f:Nat) (s:St),(bV f s).rs=s.rs
 |0,_=>rfl
 |f+1,s=>by
  unfold bV;split
  ·rfl
  ·split
   ·rfl
   ·rw[Ai f,sK,lO,C1]
theorem Fm(a:At):(s.bG a).rs=s.rs:=by
 unfold bG;split
 ·rfl
 ·split
  ·rw[uD];rfl
  ·rfl
theorem DX: ∀(l:List At) (s:St),(l.foldl bG s).rs=s.rs
 | [],_=>rfl
 |a::l,s=>by rw[List.foldl_cons,DX l,Fm]
theorem Ox:s.tick.rs=s.rs:=by unfold tick;dsimp only;rw[pw];unfold dp;rw[DX,Ai];rfl
theorem nI: ∀(f:Nat) (s:St) (i:Nat) (id c:Int),(bH f s i id c).rs=s.rs
 |0,_,_,_,_=>rfl
 |f+1,s,i,id,c=>by
  unfold bH;split
  ·rfl
  ·split
   ·rw[nI f,lO]
   ·rw[nI f]
theorem oh: ∀(f:Nat) (s:St) (c:Int),(aO f s c).rs=s.rs
 |0,_,_=>rfl
 |f+1,s,c=>by
  unfold aO;split
  ·rfl
  ·rw[oh f,sB,nI]
theorem od: ∀(f:Nat) (s:St) (c:Int),(aN f s c).rs=s.rs
 |0,_,_=>rfl
 |f+1,s,c=>by
  unfold aN;split
  ·rfl
  ·split
   ·rfl
   ·rw[od f,sK,lO]
theorem II(c:Int): ∀r∈(s.close c).rs,r∈s.rs:=by unfold close;dsimp only;rw[pw,od,oh];intro r hr;obtain⟨x,hx,rfl⟩:=ax.1 hr;exact ax.2 ⟨x,(aG.1 hx).1,rfl⟩
end St
structure Good(n:Nat)(s:St):Prop where
 inv:Inv s
 bd:Bd (2*(n:Int)) s
 sz:s.sz<=12*n
 rs: ∀r∈s.rs,r.length<=81
namespace Good
variable{n n':Nat}{s:St}
theorem le(h:Good n s)(hn:n<=n'):Good n' s:=⟨h.inv,h.bd.up (by omega),by have:=h.sz;omega,h.rs⟩
theorem wait(h:Good n s):(s.wait.length:Int)<=2*(n:Int):=by have:=h.sz;unfold St.sz at this;omega
theorem told(h:Good n s):Good n s.told:=⟨St.Lt h.inv,h.bd.told,by have:=h.sz;unfold St.sz at*;show 0+4*s.ag.length+8*s.wait.length+s.reqs.length+s.ak.length+s.begun<=_;omega,h.rs⟩
theorem tick(h:Good n s):Good (n+1) s.tick:=⟨St.Lq h.inv,(h.bd.tick h.inv).up (by omega),by have:=h.sz;have:=St.Oy (s:=s);omega,by rw[St.Ox];exact h.rs⟩
theorem close(h:Good n s)(c:Int):Good n (s.close c):=⟨St.EU h.inv c,h.bd.close h.inv c,by have:=h.sz;have:=St.IJ (s:=s) c;omega,fun r hr=>h.rs r (St.II c r hr)⟩
theorem serve(h:Good n s):Good n s.serve:=⟨St.ml h.inv,h.bd.serve h.inv,by have:=h.sz;have:=St.px (s:=s);omega,by rw[St.pw];exact h.rs⟩
end Good
theorem x6{s s':St}(h: ∀r∈s.rs,r.length<=81)(e:s'.rs=s.rs∨s'.rs=s.rs++ [[]]): ∀r∈s'.rs,r.length<=81:=by
 intro r hr;rcases e with e|e
 ·rw[e]at hr;exact h r hr
 ·rw[e]at hr;rcases List.mem_append.1 hr with hr|hr
  ·exact h r hr
  ·simp at hr;subst hr;simp
structure Mid(n m:Nat)(s:St):Prop where
 inv:Inv s
 bd:Bd (2*((n:Int)+m)) s
 sz:s.sz<=12*n+10*m+1
 rs: ∀r∈s.rs,r.length<=81
theorem Good.conn{n:Nat}{s:St}(h:Good n s)(c:Int):Mid n 0 (s.conn c):=⟨St.jS h.inv c,(h.bd.conn c).up (by omega),by have:=h.sz;have:=St.rX (s:=s) c;omega,x6 h.rs (St.oq c)⟩
theorem Mid.line{n m:Nat}{s:St}(h:Mid n m s)(c:Int)(l:Bs):Mid n (m+1) (s.line c l):=by
 have hw:(s.wait.length:Int)<=2*((n:Int)+m):=by have:=h.sz;unfold St.sz at this;omega
 have hs:=h.sz;unfold St.line;split
 ·rename_i hm;have hb:=h.bd.message h.inv c (KA hm).bd hw;have hi:=St.jx h.inv c (ui l);refine⟨St.ml hi,(hb.serve hi).up (by omega), ?_, ?_⟩
  ·have h1:=St.px (s:=s.message c (ui l));have h2:=St.ue (s:=s) c (ui l);omega
  ·rw[St.pw];exact x6 h.rs (St.CP c _)
 ·exact⟨St.bM h.inv _ _,(h.bd.say _ _).up (by omega),by rw[St.eA];omega,h.rs⟩
theorem Mid.lines{n:Nat}(c:Int): ∀(ls:List Bs) {m:Nat} {s:St},Mid n m s->Mid n (m+ls.length) (s.lines c ls)
 | [],_,_,h=>h
 |l::ls,m,s,h=>by have:=Mid.lines c ls (h.line c l);rw[List.length_cons,Nat.add_comm ls.length 1,<-Nat.add_assoc];exact this
theorem AB{s:St}{c:Int}{r:Bs}{x:Bs}(h:x∈(s.bD c r).rs):x∈s.rs∨x=r:=by
 obtain⟨y,hy,rfl⟩:=ax.1 h;rcases bR hy with hy|⟨z,_,_,rfl⟩
 ·exact .inl (ax.2 ⟨y,hy,rfl⟩)
 ·exact .inr rfl
theorem Mid.fin{n m k:Nat}{s:St}(h:Mid n m s)(c:Int)(r:Bs)(hk:1<=k)(hm:m<=k)(hr:r.length<=81):Good (n+k) ((s.conn c).bD c r):=by
 have h1:=St.jS h.inv c;have h2:Inv ((s.conn c).bD c r):=St.jT h1 (fun x=>{x with rest:=r}) (fun _=>rfl) (fun x=>x.n==c);refine⟨h2,((h.bd.conn c).ak _).up (by omega), ?_,fun x hx=> ?_⟩
 ·have e:((s.conn c).bD c r).sz=(s.conn c).sz:=by unfold St.bD St.sz;dsimp only;rw[cU]
  have h3:=St.rX (s:=s) c;have h4:=h.sz;omega
 ·rcases AB hx with hx|rfl
  ·exact x6 h.rs (St.oq c) x hx
  ·exact hr
theorem yt(rest:Bs)(ws:List Bs):(St.gW rest ws).length=ws.length:=by cases ws<;>rfl
theorem Good.feed{n k:Nat}{s:St}(h:Good n s)(c:Int)(b:Bs)(hk:1<=k)(hl:(cD 10 b).length<=k+1):Good (n+k) (s.feed c b):=by unfold St.feed;refine Mid.fin ((h.conn c).lines c (s.oQ c b).dropLast) c _ hk ?_ (by rw[List.length_take];omega);rw[List.length_dropLast];unfold St.oQ;rw[yt];omega
end Mc
namespace bA
open Go.RowKit
variable{s:ByteArray}
theorem FL{l:List UInt8}{i n:Nat}{c:Int}(h:gz l i=some (c,n))(hc:c<128):n=1∧c=byteAt l i:=by
 have hb:=pW l i;have bP:=pW l (i+1);have cL:=pW l (i+2);unfold gz at h;by_cases h1:byteAt l i<128
 ·rw[if_pos h1]at h;have e:=Option.some.inj h;exact⟨(Prod.mk.inj e).2.symm,(Prod.mk.inj e).1.symm⟩
 rw[if_neg h1]at h;by_cases h2:194<=byteAt l i∧byteAt l i<224
 ·rw[if_pos h2]at h;split at h
  ·have e:=(Prod.mk.inj (Option.some.inj h)).1;unfold two' at e;omega
  ·cases h
 rw[if_neg h2]at h;by_cases h3:224<=byteAt l i∧byteAt l i<240
 ·rw[if_pos h3]at h;split at h
  ·rename_i hh;have e:=(Prod.mk.inj (Option.some.inj h)).1;have:=hh.2.2.2;omega
  ·cases h
 rw[if_neg h3]at h;cases h
theorem Aw{l:List UInt8}: ∀(f i:Nat) (xs:List Int),dJ (gz l) l.length f i=some xs->xs.all ia=true->i<=l.length->xs.length=l.length-i∧ ∀j,i<=j->j<l.length->ia (byteAt l j)=true
 |f,i,xs,h,ha,hi=>by
  by_cases hl:i<l.length
  ·cases hn:gz l i with
   |none=>rw[tU f i hl hn]at h;cases h
   |some r=>
    obtain⟨c,n⟩:=r
    match f,h with
    |0,h=>simp[dJ,hl]at h
    |f+1,h=>
     rw[kF f i n c hl hn]at h;cases hr:dJ (gz l) l.length f (i+n)with
     |none=>rw[hr]at h;cases h
     |some ys=>
      rw[hr]at h;have e:xs=c::ys:=(Option.some.inj h).symm;subst e;rw[List.all_cons,a8]at ha;have hc:48<=c∧c<=57:=by have:=ha.1;unfold ia at this;simpa using this
      obtain⟨rfl,hcb⟩:=FL hn (by omega);obtain⟨h1,h2⟩:=Aw f (i+1) ys hr ha.2 (by omega);refine⟨by rw[List.length_cons,h1];omega,fun j hj TZ=> ?_⟩;rcases Nat.lt_or_ge i j with h'|h'
      ·exact h2 j (by omega) TZ
      ·obtain rfl:j=i:=by omega
       rw[<-hcb];exact ha.1
  ·rw[lZ f i hl]at h;have e:xs= []:=(Option.some.inj h).symm;subst e;exact⟨by simp;omega,fun j hj TZ=>by omega⟩
theorem pI(h:fL ia 6 s.data.toList=true):1<=s.size∧s.size<=6∧rJ s.data.toList=true:=by
 unfold fL at h;split at h
 ·rename_i xs hx;simp only[a8,decide_eq_true_eq]at h;obtain⟨h1,h2⟩:=Aw _ 0 xs hx h.1.1 (bk _);rw[slen]at h1;refine⟨by omega,by omega, ?_⟩;unfold rJ;rw[List.all_eq_true];intro c hc;obtain⟨j,hj,rfl⟩:=List.getElem_of_mem hc;have:=h2 j (bk _) hj;unfold byteAt at this;rw[aV hj]at this;exact this
 ·cases h
theorem KD(h:fL ia 6 s.data.toList=true)(h': ¬(1<s.size∧((s[0]'(by have:=pI h;omega)).toNat:Int)=48)):(dE s.data.toList).2=true:=by obtain⟨h1,h2,h3⟩:=pI h;rw[NT s h1 h2 (fun e=>h' ⟨e.1,by have:=e.2;rw[beq_iff_eq]at this;exact this⟩) h3]
