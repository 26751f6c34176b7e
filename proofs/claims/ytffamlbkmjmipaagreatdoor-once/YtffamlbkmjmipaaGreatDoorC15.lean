import Derived.Test.YtffamlbkmjmipaaGreatDoorC09
import Derived.Test.YtffamlbkmjmipaaGreatDoorC14
set_option maxHeartbeats 8000000
set_option maxRecDepth 100000
namespace Go.Proofs.YtffamlbkmjmipaaGreatDoor
namespace Mc
open bG
structure pz.ok(c:pz):Prop where
 le:1<=c.le∧c.le<=20
 re:0<=c.re∧c.re<=5
 ca:1<=c.ca∧c.ca<=5
 bo:1<=c.bo∧c.bo<=8
 he:0<=c.he∧c.he<=20
structure Rq.ok(P:Int)(q:Nat)(r:Rq):Prop where
 id:0<=r.id∧r.id<=999999
 n:0<=r.n∧r.n+q<=P
 left:0<=r.left∧r.left<=5
 ten:r.ten.length<=64
 txt:r.txt.length<=64
structure At.ok(P:Int)(q:Nat)(a:At):Prop where
 id:0<=a.id∧a.id<=999999
 n:0<=a.n∧a.n+q<=P
 sY:0<=a.sY∧a.sY<=P
 fx:0<=a.fx∧a.fx<=P+20
structure Bd(P:Int)(s:St):Prop where
 c:s.c.ok
 now:0<=s.now∧s.now<=P
 rq: ∀r∈s.reqs,r.ok P s.wait.length
 at': ∀a∈s.ah,a.ok P s.wait.length
namespace Bd
variable{P P':Int}{s s':St}
theorem sub(h:Bd P s)(h1:s'.c=s.c)(h2:s'.now=s.now)(h3: ∀r∈s'.reqs,r∈s.reqs)(h4: ∀a∈s'.ah,a∈s.ah)(h5:s'.wait.length<=s.wait.length):Bd P s':=
 ⟨h1▸h.c,h2▸h.now,fun r hr=>let x:=h.rq r (h3 r hr);⟨x.id,⟨x.n.1,by have:=x.n.2;omega⟩,x.left,x.ten,x.txt⟩,
  fun a ha=>let x:=h.at' a (h4 a ha);⟨x.id,⟨x.n.1,by have:=x.n.2;omega⟩,x.sY,x.fx⟩⟩
theorem up(h:Bd P s)(hp:P<=P'):Bd P' s:=
 ⟨h.c,⟨h.now.1,by have:=h.now.2;omega⟩,fun r hr=>let x:=h.rq r hr;⟨x.id,⟨x.n.1,by have:=x.n.2;omega⟩,x.left,x.ten,x.txt⟩,
  fun a ha=>let x:=h.at' a ha;⟨x.id,⟨x.n.1,by have:=x.n.2;omega⟩,⟨x.sY.1,by have:=x.sY.2;omega⟩,⟨x.fx.1,by have:=x.fx.2;omega⟩⟩⟩
theorem say(h:Bd P s)(c:Int)(t:Bs):Bd P (s.say c t):=⟨h.c,h.now,h.rq,h.at'⟩
theorem told(h:Bd P s):Bd P s.told:=⟨h.c,h.now,h.rq,h.at'⟩
theorem aq(h:Bd P s)(l:List Cn):Bd P {s with aq:=l}:=⟨h.c,h.now,h.rq,h.at'⟩
theorem conn(h:Bd P s)(c:Int):Bd P (s.conn c):=by unfold St.conn;split;(·exact h);(·exact h.aq _)
theorem fp(h:Bd P s)(c:Int):Bd P (s.fp c):=by obtain⟨_,e2,_,e4,e5,e6,e7⟩:=St.vS (s:=s) c;exact h.sub e6 e7 (fun r hr=>e4▸hr) (fun a ha=>e2▸ha) (by rw[e5];exact af _)
theorem aZ(h:Bd P s)(i:Nat):Bd P (s.aZ i):=by obtain⟨_,e2,_,e4,e5,e6,e7⟩:=St.dD (s:=s) i;exact h.sub e6 e7 (fun r hr=>e4▸hr) (fun a ha=>List.mem_of_mem_eraseIdx (e2▸ha)) (by rw[e5];exact af _)
theorem idle(h:Bd P s)(c:Int):Bd P (s.idle c):=h.sub rfl rfl (fun _ h=>h) (fun _ h=>h) (List.length_filter_le ..)
theorem aX(h:Bd P s)(id:Int)(f:Bool):Bd P (s.aX id f):=by obtain⟨_,e2,e3,e4,_,_,e7,e8⟩:=St.fW (s:=s) id f;exact h.sub e7 e8 (fun r hr=>e3▸hr) (fun a ha=>e2▸ha) (by rw[e4];exact af _)
theorem left(h:Bd P s)(id:Int):Bd P (s.left id):=⟨h.c,h.now,h.rq,h.at'⟩
theorem stopped{id:Int}(h:Bd P s)(hs:St.dp s s' id):Bd P s':=h.sub hs.cfg hs.now (fun r hr=>hs.reqs▸hr) (fun a ha=>hs.sub.subset ha) (by rw[hs.wait];exact af _)
theorem shut(h:Bd P s)(id:Int):Bd P (s.shut id):=by have h1:=(h.stopped (St.jc s.ah.length s id)).left id;exact h1.sub rfl rfl (fun r hr=>(dt _ _).subset hr) (fun _ h=>h) (af _)
theorem bj(h:Bd P s)(id:Int)(f:Rq->Rq)(hf: ∀r,r∈s.reqs->(r.id==id)=true->(f r).ok P s.wait.length):Bd P (s.bj id f):=
 ⟨h.c,h.now,fun r hr=>by
  rcases bJ hr with hr|⟨y,hy,hp,rfl⟩
  ·exact h.rq r hr
  ·exact hf y hy hp,h.at'⟩
theorem QB(hi:Inv s){id:Int}{r r':Rq}(h:s.req id=some r)(h':r'∈s.reqs)(e:(r'.id==id)=true):r'=r:=by
 obtain⟨hm,hid,_⟩:=St.lZ h;have hn:=hi.rid;unfold St.ks at hn;rw[aB]at hn;obtain⟨i,zu,ei⟩:=List.getElem_of_mem hm;obtain⟨j,VY,ej⟩:=List.getElem_of_mem h';have h2:=List.pairwise_iff_getElem.1 hn;have e':r'.id=r.id:=by rw[hid];simpa using e
 rcases Nat.lt_trichotomy i j with h|h|h
 ·exact absurd (by rw[List.getElem_map,List.getElem_map,ei,ej];exact e'.symm) (h2 i j (by simpa using zu) (by simpa using VY) h)
 ·subst h;rw[<-ei,<-ej]
 ·exact absurd (by rw[List.getElem_map,List.getElem_map,ei,ej];exact e') (h2 j i (by simpa using VY) (by simpa using zu) h)
theorem again(h:Bd P s)(hi:Inv s)(id:Int)(c:Bool):Bd P (s.again id c):=by
 unfold St.again;split
 ·exact h
 ·split
  ·exact h
  ·rename_i r hr;split
   ·exact(h.say _ _).shut _
   ·rename_i hc;split
    ·refine(h.bj id _ (fun r' rL e=> ?_)).aX _ _;have e1:=QB hi hr rL e;subst e1;have x:=h.rq r' rL;have hl:r'.left≠0:=by rename_i VM;intro e0;apply hc;simp[VM,e0]
     exact⟨x.id,x.n,by have:=x.left;exact⟨by show 0<=r'.left-1;omega,by show r'.left-1<=5;omega⟩,x.ten,x.txt⟩
    ·exact h.aX _ _
theorem give(h:Bd P s){c:Int}{ws:List Int}(hw:s.wait=c::ws)(k:Nat):Bd P (s.give c ws k):=by
 unfold St.give;split
 ·exact h
 ·split
  ·exact h
  ·split
   ·exact h
   ·rename_i id _ _ r hr;have hlen:s.wait.length=ws.length+1:=by rw[hw];rfl
    apply say;refine⟨h.c,h.now,fun r' rL=> ?_,fun a ha=> ?_⟩
    ·rcases bJ rL with rL|⟨y,hy,hp,rfl⟩
     ·have x:=h.rq r' rL;exact⟨x.id,⟨x.n.1,by have:=x.n.2;show r'.n+(ws.length:Int)<=P;omega⟩,x.left,x.ten,x.txt⟩
     ·have x:=h.rq y hy;exact⟨x.id,⟨by have:=x.n.1;show 0<=y.n+1;omega,by have:=x.n.2;show y.n+1+(ws.length:Int)<=P;omega⟩,x.left,x.ten,x.txt⟩
    ·rcases List.mem_append.1 ha with ha|ha
     ·have x:=h.at' a ha;exact⟨x.id,⟨x.n.1,by have:=x.n.2;show a.n+(ws.length:Int)<=P;omega⟩,x.sY,x.fx⟩
     ·obtain rfl:=b9.1 ha;obtain⟨hm,hid,_⟩:=St.lZ hr;have x:=h.rq r hm;have:=h.now;have:=h.c.le;refine⟨hid▸x.id,⟨by have:=x.n.1;show 0<=r.n+1;omega,by have:=x.n.2;show r.n+1+(ws.length:Int)<=P;omega⟩,h.now, ?_, ?_⟩
      ·show 0<=s.now+s.c.le;omega
      ·show s.now+s.c.le<=P+20;omega
theorem bR: ∀(f:Nat) {s:St},Bd P s->Inv s->Bd P (St.bR f s)
 |0,_,h,_=>h
 |f+1,s,h,hi=>by
  unfold St.bR;split
  ·exact h
  ·rename_i c ws hw;split
   ·exact h
   ·exact bR f (h.give hw _) (St.kQ hi c ws (by rw[hw];exact List.sublist_cons_self ..) _)
theorem serve(h:Bd P s)(hi:Inv s):Bd P s.serve:=bR _ h hi
theorem bV: ∀(f:Nat) {s:St},Bd P s->Inv s->Bd P (St.bV f s)
 |0,_,h,_=>h
 |f+1,s,h,hi=>by
  unfold St.bV;split
  ·exact h
  ·split
   ·exact h
   ·exact bV f (((h.say _ _).aZ _).again (St.bg (St.bM hi _ _) _) _ _) (St.dn (St.bg (St.bM hi _ _) _) _ _)
theorem bk(h:Bd P s)(a:At):Bd P (s.bk a):=by
 unfold St.bk;split
 ·exact h
 ·split
  ·exact(h.bj a.id (fun r=>{r with hedged:=true}) (fun r hr _=>let x:=h.rq r hr;⟨x.id,x.n,x.left,x.ten,x.txt⟩)).aX _ _
  ·exact h
theorem fold: ∀(l:List At) {s:St},Bd P s->Bd P (l.foldl St.bk s)
 | [],_,h=>h
 |a::l,_,h=>fold l (h.bk a)
theorem tick(h:Bd P s)(hi:Inv s):Bd (P+1) s.tick:=by
 have h1:Bd (P+1) {s with now:=s.now+1}:=by have h0:=h.up (P':=P+1) (by omega);have:=h.now;exact⟨h0.c,⟨by show 0<=s.now+1;omega,by show s.now+1<=P+1;omega⟩,h0.rq,h0.at'⟩
 have i1:=St.kx hi (s.now+1);exact(fold _ (bV _ h1 i1)).serve (St.jm (St.gX _ i1))
theorem aM: ∀(f:Nat) {s:St} (c:Int),Bd P s->Bd P (St.aM f s c)
 |0,_,_,h=>h
 |f+1,s,c,h=>by
  unfold St.aM;split
  ·exact h
  ·exact aM f c ((h.stopped (St.dO _ _ _ _ _)).shut _)
theorem aP: ∀(f:Nat) {s:St} (c:Int),Bd P s->Inv s->Bd P (St.aP f s c)
 |0,_,_,h,_=>h
 |f+1,s,c,h,hi=>by
  unfold St.aP;split
  ·exact h
  ·split
   ·exact h
   ·exact aP f c ((h.aZ _).again (St.bg hi _) _ _) (St.dn (St.bg hi _) _ _)
theorem close(h:Bd P s)(hi:Inv s)(c:Int):Bd P (s.close c):=by have i1:=St.jr hi c;have i2:Inv ({s.idle c with aq:=(s.idle c).aq.filter (·.n !=c)}:St):=⟨i1.rid,i1.bF,i1.ring,i1.fu,i1.once,(List.filter_sublist.map _).nodup i1.cn,i1.wt⟩;have h2:=(h.idle c).aq ((s.idle c).aq.filter (·.n !=c));exact(aP _ c (aM _ c h2) (St.cP _ c i2)).serve (St.fo _ c (St.cP _ c i2))
structure bG(m:Mg):Prop where
 id:0<=m.id∧m.id<=999999
 ten:m.ten.length<=64
 txt:m.txt.length<=64
theorem cf(h:Bd P s)(c:Int){m:Mg}(hm:bG m)(hp:(s.wait.length:Int)<=P):Bd P (s.cf c m):=by
 unfold St.cf;split
 ·exact h.say _ _
 ·split
  ·exact h.say _ _
  ·apply Bd.aX;apply Bd.say;refine⟨h.c,h.now,fun r hr=> ?_,h.at'⟩;rcases List.mem_append.1 hr with hr|hr
   ·exact h.rq r hr
   ·obtain rfl:=b9.1 hr;have:=h.c.re;exact⟨hm.id,⟨Int.le_refl _,by show 0+(s.wait.length:Int)<=P;omega⟩,this,hm.ten,hm.txt⟩
theorem message(h:Bd P s)(hi:Inv s)(c:Int){m:Mg}(hm:bG m)(hp:(s.wait.length:Int)<=P):Bd (P+1) (s.message c m):=by
 have h0:=h.up (P':=P+1) (by omega);unfold St.message;split
 ·exact(h.cf c hm hp).up (by omega)
 split
 ·split
  ·exact h0.say _ _
  ·split
   ·exact(h0.say _ _).shut _
   ·exact h0.say _ _
 split
 ·split
  ·exact h0
  ·dsimp only;have e:(s.conn c).wait=s.wait:=by unfold St.conn;split<;>rfl
   split
   ·exact h0.conn c
   ·have h1:=h.conn c;have h2:=h0.conn c;have hl:((s.conn c).wait++ [c]).length=(s.conn c).wait.length+1:=by simp
    refine⟨h2.c,h2.now,fun r hr=> ?_,fun a ha=> ?_⟩
    ·have x:=h1.rq r hr;exact⟨x.id,⟨x.n.1,by have:=x.n.2;show r.n+(((s.conn c).wait++ [c]).length:Int)<=P+1;omega⟩,x.left,x.ten,x.txt⟩
    ·have x:=h1.at' a ha;exact⟨x.id,⟨x.n.1,by have:=x.n.2;show a.n+(((s.conn c).wait++ [c]).length:Int)<=P+1;omega⟩,⟨x.sY.1,by have:=x.sY.2;omega⟩,⟨x.fx.1,by have:=x.fx.2;omega⟩⟩
 split
 ·refine⟨h0.c,h0.now,h0.rq,fun a ha=> ?_⟩;obtain⟨x,hx,rfl⟩:=az.1 ha;have y:=h0.at' x hx;have:=h.now;have:=h.c.le;split
  ·exact⟨y.id,y.n,y.sY,by show 0<=s.now+s.c.le;omega,by show s.now+s.c.le<=P+1+20;omega⟩
  ·exact y
 split
 ·split
  ·exact h0
  ·split
   ·exact h0
   ·exact((h0.say _ _).aZ _).shut _
 split
 ·split
  ·exact h0
  ·exact(h0.aZ _).again (St.bg hi _) _ _
 split
 ·exact(((h0.conn c).aq _).idle c).fp c
 ·exact h0
end Bd
end Mc
namespace Mc
open bG
variable{l:List UInt8}
structure Vf(x:Mg):Prop where
 kind:x.kind=fT∨x.kind=gW∨x.kind=eY∨x.kind=eX∨x.kind=bO∨x.kind=kFail∨x.kind=cU
 bd:Bd.bG x
theorem PY{i n:Nat}{c:Int}(h:gP l i=some (c,n)):n<=3:=by
 unfold gP at h;split at h
 ·cases h;omega
 ·split at h
  ·split at h
   ·cases h;omega
   ·cases h
  ·split at h
   ·split at h
    ·cases h;omega
    ·cases h
   ·cases h
theorem Dw{la:Nat->Option (Int×Nat)}{len:Nat}(hla: ∀i c n,la i=some (c,n)->n<=3): ∀(f i:Nat) (xs:List Int),dN la len f i=some xs->len<=i+3*xs.length
 |0,i,xs,h=>by
  unfold dN at h;split at h
  ·cases h
  ·cases h;omega
 |f+1,i,xs,h=>by
  unfold dN at h;split at h
  ·split at h
   ·cases h
   ·rename_i c n hn;obtain⟨ys,hy,rfl⟩:=Option.map_eq_some_iff.1 h;have h1:=Dw hla f (i+n) ys hy;have h2:=hla _ _ _ hn;simp;omega
  ·cases h;omega
theorem yU{p:Int->Bool}{most:Nat}(h:gp p most l=true):l.length<=3*most:=by
 unfold gp at h;split at h
 ·rename_i xs hx;have h1:=Dw (fun i c n hn=>PY (l:=l) hn) _ _ _ hx;simp at h;omega
 ·cases h
theorem Bx(l:List UInt8):0<=(cM l).1∧(cM l).1<=999999:=by
 unfold cM;split
 ·rename_i h;simp only[bm,decide_eq_true_eq]at h;obtain⟨⟨⟨h1,h6⟩,_⟩,hd⟩:=h;have hb:=Q6 l hd;have sZ:((10:Int) ^l.length)<=10 ^6:=by
   have:(10 ^l.length:Nat)<=10 ^6:=Nat.pow_le_pow_right (by omega) h6;exact_mod_cast this
  dsimp only;have:((10:Int) ^6)=1000000:=by decide
  omega
 ·exact⟨by decide,by decide⟩
theorem TF(h:(gH l).2=true):Vf (gH l).1:=by
 unfold gH at h⊢;generalize bB 32 l=ws at*;unfold a6 at h⊢;split at h
 ·cases h
 ·rename_i k;simp only[Bool.or_eq_true,beq_iff_eq]at h;refine⟨?_,⟨Int.le_refl 0,(by decide:(0:Int)<=999999)⟩,by simp,by simp⟩;rcases h with(h|h)|h<;>simp[h]
 ·rename_i k a;split at h
  ·rename_i hk;rw[if_pos hk];exact⟨by simp[hk],Bx a,by simp,by simp⟩
  ·cases h
 ·rename_i k a b;split at h
  ·rename_i hk;rw[if_pos hk];exact⟨by simp[hk],Bx a,by simp,by simp⟩
  ·cases h
 ·rename_i k a b t;split at h
  ·rename_i hk;rw[if_pos hk];simp only[bm]at h;exact⟨by simp[hk],Bx a,by simp,ar (yU h.2) (by omega)⟩
  ·split at h
   ·rename_i hk NK;rw[if_neg hk,if_pos NK];simp only[bm]at h;exact⟨by simp[NK],Bx a,ar (yU h.1.2) (by omega),ar (yU h.2) (by omega)⟩
   ·cases h
 ·cases h
def ju(l:Bs):Bool:=fZ l &&(gH (di l)).2
def rR(l:Bs):Mg:=(gH (di l)).1
theorem GU{l:Bs}(h:ju l=true):Vf (rR l):=TF (by unfold ju at h;simp at h;exact h.2)
end Mc
namespace Mc
open bG
namespace St
variable{s:St}
def bad:Bs:= [98,97,100]
def line(s:St)(c:Int)(l:Bs):St:=if ju l then(s.message c (rR l)).serve else s.say c bad
def cW(s:St)(c:Int):Bs:=match s.aq.find? (·.n==c)with|some x=>x.rest|none=> []
def jE(rest:Bs):List Bs->List Bs
 | []=> []
 |x::r=>(rest++x)::r
def bW(s:St)(c:Int)(r:Bs):St:={s with aq:=aK (fun x=>x.n==c) (fun x=>{x with rest:=r}) s.aq}
def rP(s:St)(c:Int)(b:Bs):List Bs:=jE (s.cW c) (bB 10 b)
def lines(s:St)(c:Int)(ls:List Bs):St:=ls.foldl (fun s l=>s.line c l) s
def feed(s:St)(c:Int)(b:Bs):St:=(((s.conn c).lines c (s.rP c b).dropLast).conn c).bW c (((s.rP c b).getLastD []).take 81)
def rs(s:St):List Bs:=s.aq.map (·.rest)
theorem Hj(c:Int)(t:Bs):(s.say c t).rs=s.rs:=rfl
theorem MN(c:Int):(s.fp c).rs=s.rs:=by
 unfold fp;split
 ·exact bn (fun x:Cn=>x.n==c) (fun x:Cn=>{x with gone:=true}) (·.rest) (fun _=>rfl) s.aq
 ·rfl
theorem nz(i:Nat):(s.aZ i).rs=s.rs:=by
 unfold aZ;split
 ·rw[MN];rfl
 ·rfl
theorem Ei: ∀(f:Nat) (s:St) (id:Int),(stops f s id).rs=s.rs
 |0,_,_=>rfl
 |f+1,s,id=>by
  unfold stops;split
  ·rfl
  ·split
   ·rfl
   ·rw[Ei f,nz,Hj]
theorem vE(id:Int):(s.shut id).rs=s.rs:=Ei _ s id
theorem yS(id:Int)(f:Bool):(s.aX id f).rs=s.rs:=by unfold aX;split<;>rfl
theorem vM(id:Int)(c:Bool):(s.again id c).rs=s.rs:=by
 unfold again;split
 ·rfl
 ·split
  ·rfl
  ·split
   ·rw[vE,Hj]
   ·rw[yS];split<;>rfl
theorem SA(c:Int)(ws:List Int)(k:Nat):(s.give c ws k).rs=s.rs:=by
 unfold give;split
 ·rfl
 ·split
  ·rfl
  ·split<;>rfl
theorem Ao: ∀(f:Nat) (s:St),(bR f s).rs=s.rs
 |0,_=>rfl
 |f+1,s=>by
  unfold bR;split
  ·rfl
  ·split
   ·rfl
   ·rw[Ao f,SA]
theorem nh:s.serve.rs=s.rs:=Ao _ _
theorem Lm(c:Int)(m:Mg):(s.cf c m).rs=s.rs:=by
 unfold cf;split
 ·rfl
 ·split
  ·rfl
  ·rw[yS];rfl
theorem lM(c:Int):(s.conn c).rs=s.rs∨(s.conn c).rs=s.rs++ [[]]:=by
 unfold conn;split
 ·exact .inl rfl
 ·right;unfold rs;rw[aD];rfl
theorem yt(c:Int)(m:Mg):(s.message c m).rs=s.rs∨(s.message c m).rs=s.rs++ [[]]:=by
 unfold message;split
 ·exact .inl (Lm c m)
 split
 ·split
  ·exact .inl rfl
  ·split
   ·exact .inl (by rw[vE];rfl)
   ·exact .inl rfl
 split
 ·split
  ·exact .inl rfl
  ·dsimp only;split
   ·exact lM c
   ·exact lM (s:=s) c
 split
 ·exact .inl rfl
 split
 ·split
  ·exact .inl rfl
  ·split
   ·exact .inl rfl
   ·exact .inl (by rw[vE,nz];rfl)
 split
 ·split
  ·exact .inl rfl
  ·exact .inl (by rw[vM,nz])
 split
 ·dsimp only;rw[MN];have e:(St.idle {s.conn c with aq:=aK (fun x=>x.n==c) (fun x=>{x with drains:=true}) (s.conn c).aq} c).rs=(s.conn c).rs:=bn (fun x:Cn=>x.n==c) (fun x:Cn=>{x with drains:=true}) (·.rest) (fun _=>rfl) (s.conn c).aq;rw[e];exact lM c
 ·exact .inl rfl
theorem Dq: ∀(f:Nat) (s:St),(bV f s).rs=s.rs
 |0,_=>rfl
 |f+1,s=>by
  unfold bV;split
  ·rfl
  ·split
   ·rfl
   ·rw[Dq f,vM,nz,Hj]
theorem Kh(a:At):(s.bk a).rs=s.rs:=by
 unfold bk;split
 ·rfl
 ·split
  ·rw[yS];rfl
  ·rfl
theorem IC: ∀(l:List At) (s:St),(l.foldl bk s).rs=s.rs
 | [],_=>rfl
 |a::l,s=>by rw[List.foldl_cons,IC l,Kh]
theorem Jv:s.tick.rs=s.rs:=by unfold tick;dsimp only;rw[nh];unfold dE;rw[IC,Dq];rfl
theorem qh: ∀(f:Nat) (s:St) (i:Nat) (id c:Int),(bp f s i id c).rs=s.rs
 |0,_,_,_,_=>rfl
 |f+1,s,i,id,c=>by
  unfold bp;split
  ·rfl
  ·split
   ·rw[qh f,nz]
   ·rw[qh f]
theorem rf: ∀(f:Nat) (s:St) (c:Int),(aM f s c).rs=s.rs
 |0,_,_=>rfl
 |f+1,s,c=>by
  unfold aM;split
  ·rfl
  ·rw[rf f,vE,qh]
theorem ra: ∀(f:Nat) (s:St) (c:Int),(aP f s c).rs=s.rs
 |0,_,_=>rfl
 |f+1,s,c=>by
  unfold aP;split
  ·rfl
  ·split
   ·rfl
   ·rw[ra f,vM,nz]
theorem Cu(c:Int): ∀r∈(s.close c).rs,r∈s.rs:=by unfold close;dsimp only;rw[nh,ra,rf];intro r hr;obtain⟨x,hx,rfl⟩:=az.1 hr;exact az.2 ⟨x,(aL.1 hx).1,rfl⟩
end St
structure Good(n:Nat)(s:St):Prop where
 inv:Inv s
 bd:Bd (2*(n:Int)) s
 sz:s.sz<=12*n
 rs: ∀r∈s.rs,r.length<=81
namespace Good
variable{n n':Nat}{s:St}
theorem le(h:Good n s)(hn:n<=n'):Good n' s:=⟨h.inv,h.bd.up (by omega),by have:=h.sz;omega,h.rs⟩
theorem wait(h:Good n s):(s.wait.length:Int)<=2*(n:Int):=by have:=h.sz;unfold St.sz at this;omega
theorem told(h:Good n s):Good n s.told:=⟨St.Q3 h.inv,h.bd.told,by have:=h.sz;unfold St.sz at*;show 0+4*s.ah.length+8*s.wait.length+s.reqs.length+s.aq.length+s.begun<=_;omega,h.rs⟩
theorem tick(h:Good n s):Good (n+1) s.tick:=⟨St.QZ h.inv,(h.bd.tick h.inv).up (by omega),by have:=h.sz;have:=St.TV (s:=s);omega,by rw[St.Jv];exact h.rs⟩
theorem close(h:Good n s)(c:Int):Good n (s.close c):=⟨St.JH h.inv c,h.bd.close h.inv c,by have:=h.sz;have:=St.MU (s:=s) c;omega,fun r hr=>h.rs r (St.Cu c r hr)⟩
theorem serve(h:Good n s):Good n s.serve:=⟨St.nV h.inv,h.bd.serve h.inv,by have:=h.sz;have:=St.sf (s:=s);omega,by rw[St.nh];exact h.rs⟩
end Good
theorem BC{s s':St}(h: ∀r∈s.rs,r.length<=81)(e:s'.rs=s.rs∨s'.rs=s.rs++ [[]]): ∀r∈s'.rs,r.length<=81:=by
 intro r hr;rcases e with e|e
 ·rw[e]at hr;exact h r hr
 ·rw[e]at hr;rcases List.mem_append.1 hr with hr|hr
  ·exact h r hr
  ·simp at hr;subst hr;simp
structure Mid(n m:Nat)(s:St):Prop where
 inv:Inv s
 bd:Bd (2*((n:Int)+m)) s
 sz:s.sz<=12*n+10*m+1
 rs: ∀r∈s.rs,r.length<=81
theorem Good.conn{n:Nat}{s:St}(h:Good n s)(c:Int):Mid n 0 (s.conn c):=⟨St.kN h.inv c,(h.bd.conn c).up (by omega),by have:=h.sz;have:=St.vk (s:=s) c;omega,BC h.rs (St.lM c)⟩
theorem Mid.line{n m:Nat}{s:St}(h:Mid n m s)(c:Int)(l:Bs):Mid n (m+1) (s.line c l):=by
 have hw:(s.wait.length:Int)<=2*((n:Int)+m):=by have:=h.sz;unfold St.sz at this;omega
 have hs:=h.sz;unfold St.line;split
 ·rename_i hm;have hb:=h.bd.message h.inv c (GU hm).bd hw;have hi:=St.ku h.inv c (rR l);refine⟨St.nV hi,(hb.serve hi).up (by omega), ?_, ?_⟩
  ·have h1:=St.sf (s:=s.message c (rR l));have h2:=St.yu (s:=s) c (rR l);omega
  ·rw[St.nh];exact BC h.rs (St.yt c _)
 ·exact⟨St.bM h.inv _ _,(h.bd.say _ _).up (by omega),by rw[St.fB];omega,h.rs⟩
theorem Mid.lines{n:Nat}(c:Int): ∀(ls:List Bs) {m:Nat} {s:St},Mid n m s->Mid n (m+ls.length) (s.lines c ls)
 | [],_,_,h=>h
 |l::ls,m,s,h=>by have:=Mid.lines c ls (h.line c l);rw[List.length_cons,Nat.add_comm ls.length 1,<-Nat.add_assoc];exact this
theorem DC{s:St}{c:Int}{r:Bs}{x:Bs}(h:x∈(s.bW c r).rs):x∈s.rs∨x=r:=by
 obtain⟨y,hy,rfl⟩:=az.1 h;rcases bJ hy with hy|⟨z,_,_,rfl⟩
 ·exact .inl (az.2 ⟨y,hy,rfl⟩)
 ·exact .inr rfl
theorem Mid.fin{n m k:Nat}{s:St}(h:Mid n m s)(c:Int)(r:Bs)(hk:1<=k)(hm:m<=k)(hr:r.length<=81):Good (n+k) ((s.conn c).bW c r):=by
 have h1:=St.kN h.inv c;have h2:Inv ((s.conn c).bW c r):=St.kO h1 (fun x=>{x with rest:=r}) (fun _=>rfl) (fun x=>x.n==c);refine⟨h2,((h.bd.conn c).aq _).up (by omega), ?_,fun x hx=> ?_⟩
 ·have e:((s.conn c).bW c r).sz=(s.conn c).sz:=by unfold St.bW St.sz;dsimp only;rw[cV]
  have h3:=St.vk (s:=s) c;have h4:=h.sz;omega
 ·rcases DC hx with hx|rfl
  ·exact BC h.rs (St.lM c) x hx
  ·exact hr
theorem BM(rest:Bs)(ws:List Bs):(St.jE rest ws).length=ws.length:=by cases ws<;>rfl
theorem Good.feed{n k:Nat}{s:St}(h:Good n s)(c:Int)(b:Bs)(hk:1<=k)(hl:(bB 10 b).length<=k+1):Good (n+k) (s.feed c b):=by unfold St.feed;refine Mid.fin ((h.conn c).lines c (s.rP c b).dropLast) c _ hk ?_ (by rw[List.length_take];omega);rw[List.length_dropLast];unfold St.rP;rw[BM];omega
end Mc
namespace bG
open Go.RowKit
variable{s:ByteArray}
theorem KF{l:List UInt8}{i n:Nat}{c:Int}(h:gP l i=some (c,n))(hc:c<128):n=1∧c=byteAt l i:=by
 have hb:=s9 l i;have bT:=s9 l (i+1);have cZ:=s9 l (i+2);unfold gP at h;by_cases h1:byteAt l i<128
 ·rw[if_pos h1]at h;have e:=Option.some.inj h;exact⟨(Prod.mk.inj e).2.symm,(Prod.mk.inj e).1.symm⟩
 rw[if_neg h1]at h;by_cases h2:194<=byteAt l i∧byteAt l i<224
 ·rw[if_pos h2]at h;split at h
  ·have e:=(Prod.mk.inj (Option.some.inj h)).1;unfold two' at e;omega
  ·cases h
 rw[if_neg h2]at h;by_cases h3:224<=byteAt l i∧byteAt l i<240
 ·rw[if_pos h3]at h;split at h
  ·rename_i hh;have e:=(Prod.mk.inj (Option.some.inj h)).1;have:=hh.2.2.2;omega
  ·cases h
 rw[if_neg h3]at h;cases h
theorem Dx{l:List UInt8}: ∀(f i:Nat) (xs:List Int),dN (gP l) l.length f i=some xs->xs.all iN=true->i<=l.length->xs.length=l.length-i∧ ∀j,i<=j->j<l.length->iN (byteAt l j)=true
 |f,i,xs,h,ha,hi=>by
  by_cases hl:i<l.length
  ·cases hn:gP l i with
   |none=>rw[yl f i hl hn]at h;cases h
   |some r=>
    obtain⟨c,n⟩:=r
    match f,h with
    |0,h=>simp[dN,hl]at h
    |f+1,h=>
     rw[lU f i n c hl hn]at h;cases hr:dN (gP l) l.length f (i+n)with
     |none=>rw[hr]at h;cases h
     |some ys=>
      rw[hr]at h;have e:xs=c::ys:=(Option.some.inj h).symm;subst e;rw[List.all_cons,bm]at ha;have hc:48<=c∧c<=57:=by have:=ha.1;unfold iN at this;simpa using this
      obtain⟨rfl,hcb⟩:=KF hn (by omega);obtain⟨h1,h2⟩:=Dx f (i+1) ys hr ha.2 (by omega);refine⟨by rw[List.length_cons,h1];omega,fun j hj Xv=> ?_⟩;rcases Nat.lt_or_ge i j with h'|h'
      ·exact h2 j (by omega) Xv
      ·obtain rfl:j=i:=by omega
       rw[<-hcb];exact ha.1
  ·rw[nL f i hl]at h;have e:xs= []:=(Option.some.inj h).symm;subst e;exact⟨by simp;omega,fun j hj Xv=>by omega⟩
theorem sU(h:gp iN 6 s.data.toList=true):1<=s.size∧s.size<=6∧od s.data.toList=true:=by
 unfold gp at h;split at h
 ·rename_i xs hx;simp only[bm,decide_eq_true_eq]at h;obtain⟨h1,h2⟩:=Dx _ 0 xs hx h.1.1 (bh _);rw[slen]at h1;refine⟨by omega,by omega, ?_⟩;unfold od;rw[List.all_eq_true];intro c hc;obtain⟨j,hj,rfl⟩:=List.getElem_of_mem hc;have:=h2 j (bh _) hj;unfold byteAt at this;rw[aY hj]at this;exact this
 ·cases h
theorem Qe(h:gp iN 6 s.data.toList=true)(h': ¬(1<s.size∧((s[0]'(by have:=sU h;omega)).toNat:Int)=48)):(cM s.data.toList).2=true:=by obtain⟨h1,h2,h3⟩:=sU h;rw[Tt s h1 h2 (fun e=>h' ⟨e.1,by have:=e.2;rw[beq_iff_eq]at this;exact this⟩) h3]
