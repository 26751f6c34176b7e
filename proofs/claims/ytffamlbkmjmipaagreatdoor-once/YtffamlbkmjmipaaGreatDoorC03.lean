import Derived.Test.YtffamlbkmjmipaaGreatDoorC02
set_option maxHeartbeats 8000000
set_option maxRecDepth 100000
namespace Go.Proofs.YtffamlbkmjmipaaGreatDoor
namespace Mc
open bG
namespace St
variable{s:St}
theorem fresh(hi:Inv s){id:Int}(h:s.req id=none):s.count id=0∧s.waits id=false∧id∉s.ks.map (·.1):=by
 have UC:id∉s.ks.map (·.1):=fun hk=>by obtain⟨r,hr,_⟩:=cu hk;rw[hr]at h;cases h
 refine⟨FU (fun a ha e=>UC (e▸hi.bF a ha)), ?_,UC⟩;rw[gm,cS];intro e;obtain⟨l,hl,hm⟩:=List.mem_flatMap.1 e;exact UC (lT ((hi.ring l hl).2 _ hm))
def more(s:St)(r:Rq):St:={s with reqs:=s.reqs++ [r]}
end St
namespace Ok
variable{s:St}
theorem more(h:Ok s)(hi:Inv s)(r:Rq)(hr:s.req r.id=none):Ok (s.more r):=by
 obtain⟨hc,hw,hk⟩:=St.fresh hi hr;refine⟨h.gone,h.dr,h.key,fun a ha q hq e=> ?_,fun q hq hh=> ?_⟩
 ·rcases List.mem_append.1 hq with hq|hq
  ·exact h.num a ha q hq e
  ·obtain rfl:=b9.1 hq;exact absurd (hi.bF a ha) (e▸hk)
 ·rcases List.mem_append.1 hq with hq|hq
  ·exact h.hd q hq hh
  ·obtain rfl:=b9.1 hq;exact⟨by show s.count q.id<=1;omega,fun h0=>by have:0<s.count q.id:=h0;omega⟩
theorem cf(h:Ok s)(hi:Inv s)(c:Int)(m:Mg):Ok (s.cf c m):=by
 unfold St.cf;split
 ·exact h.say _ _
 ·split
  ·exact h.say _ _
  ·rename_i h1 _;have hn:s.req m.id=none:=by
    cases e:s.req m.id with
    |none=>rfl
    |some r=>rw[e]at h1;simp at h1
   exact((h.more hi ⟨m.id,c,m.ten,m.txt,0,s.c.re,false⟩ hn).say _ _).aX _ _ (fun _ _ _ _=>(St.fresh hi hn).1)
theorem drain(h:Ok s)(hi:Inv s)(c:Int):Ok ((({s with aq:=aK (fun x=>x.n==c) (fun x=>{x with drains:=true}) s.aq}:St).idle c).fp c):=by
 have zu:=St.kO hi (fun x=>{x with drains:=true}) (fun _=>rfl) (fun x=>x.n==c);refine fp (s:=({s with aq:=aK (fun x=>x.n==c) (fun x=>{x with drains:=true}) s.aq}:St).idle c) zu.cn c (fun x hx kI=> ?_) (fun x hx kI=> ?_) h.key h.num h.hd
 ·have Rs:x∈aK (fun x=>x.n==c) (fun x=>({x with drains:=true}:Cn)) s.aq:=hx;rw[bK (fun x:Cn=>x.n) c _ hi.cn]at Rs;obtain⟨z,hz,rfl⟩:=az.1 Rs;by_cases e:z.n=c
  ·simp[e]at kI
  ·simp only[beq_iff_eq,if_neg e]at kI⊢;exact h.gone z hz kI
 ·have Rs:x∈aK (fun x=>x.n==c) (fun x=>({x with drains:=true}:Cn)) s.aq:=hx;rw[bK (fun x:Cn=>x.n) c _ hi.cn]at Rs;obtain⟨z,hz,rfl⟩:=az.1 Rs;show(_->(_↔s.held _=0))∧(_->_->s.held _=0)∧_∉s.wait.filter (· !=c);by_cases e:z.n=c
  ·simp only[beq_iff_eq,if_pos e];refine⟨fun h=>absurd e h,fun _ hg=> ?_,by simp[e]⟩;cases hd:z.drains with
   |false=>rw[h.gone z hz hd]at hg;cases hg
   |true=>exact(h.dr z hz hd).1.1 hg
  ·simp only[beq_iff_eq,if_neg e]at kI⊢;exact⟨fun _=>(h.dr z hz kI).1,fun h=>absurd h e,fun hm=>(h.dr z hz kI).2 (aL.1 hm).1⟩
theorem message(h:Ok s)(hi:Inv s)(c:Int)(m:Mg):Ok (s.message c m):=by
 unfold St.message;split
 ·exact h.cf hi c m
 split
 ·split
  ·exact h.say _ _
  ·split
   ·exact(h.say _ _).shut (St.bM hi _ _) _
   ·exact h.say _ _
 split
 ·split
  ·exact h
  ·have h1:=h.conn c;dsimp only;split
   ·exact h1
   ·rename_i NF;refine⟨h1.gone,fun x hx kI=>⟨(h1.dr x hx kI).1,fun hm=> ?_⟩,h1.key,h1.num,h1.hd⟩;rcases List.mem_append.1 hm with hm|hm
    ·exact(h1.dr x hx kI).2 hm
    ·have e:=b9.1 hm;apply NF;unfold St.drains;have hf:(s.conn c).aq.find? (·.n==c)=some x:=by
      have hs:((s.conn c).aq.find? (·.n==c)).isSome:=List.find?_isSome.2 ⟨x,hx,by simpa using e⟩;obtain⟨y,hy⟩:=Option.isSome_iff_exists.1 hs;rw[hy,bC (k:=fun x:Cn=>x.n) (St.kN hi c).cn (cI hy) hx (by rw[show y.n=c by simpa using List.find?_some hy,e])]
     rw[hf];exact kI
 split
 ·have e1: ∀(l:List At),(l.map (fun a=>if(a.conn==c)=true then({a with fx:=s.now+s.c.le}:At)else a)).map (fun a=>(a.id,a.n,a.conn))=l.map (fun a=>(a.id,a.n,a.conn)):=by
   intro l;rw[aB];apply bz;intro a _;show((if(a.conn==c)=true then({a with fx:=s.now+s.c.le}:At)else a).id,(if(a.conn==c)=true then({a with fx:=s.now+s.c.le}:At)else a).n,(if(a.conn==c)=true then({a with fx:=s.now+s.c.le}:At)else a).conn)=_;split<;>rfl
  have hc: ∀(p:Int×Int×Int->Bool) (l:List At),(l.map (fun a=>if(a.conn==c)=true then({a with fx:=s.now+s.c.le}:At)else a)).countP (fun a=>p (a.id,a.n,a.conn))=l.countP (fun a=>p (a.id,a.n,a.conn)):=by intro p l;have:=congrArg (List.countP p) (e1 l);simp only[List.countP_map,Function.comp_def]at this⊢;exact this
  refine⟨h.gone,fun x hx kI=> ?_, ?_,fun a ha r hr e=> ?_,fun r hr rL=> ?_⟩
  ·have:=hc (fun y=>y.2.2==x.n) s.ah;refine⟨?_,(h.dr x hx kI).2⟩;show(_↔St.held {s with ah:=s.ah.map _} x.n=0);unfold St.held;dsimp only;rw[this];exact(h.dr x hx kI).1
  ·have:=congrArg (List.map (fun y:Int×Int×Int=>(y.1,y.2.1))) (e1 s.ah);have h2:((s.ah.map (fun a=>if(a.conn==c)=true then({a with fx:=s.now+s.c.le}:At)else a)).map fun a=>(a.id,a.n))=s.ah.map fun a=>(a.id,a.n):=by
    simp only[aB,Function.comp_def]at this⊢;exact this
   show((s.ah.map (fun a=>if(a.conn==c)=true then({a with fx:=s.now+s.c.le}:At)else a)).map fun a=>(a.id,a.n)).Nodup;rw[h2];exact h.key
  ·obtain⟨y,hy,rfl⟩:=az.1 ha;have:(if(y.conn==c)=true then({y with fx:=s.now+s.c.le}:At)else y).id=y.id∧(if(y.conn==c)=true then({y with fx:=s.now+s.c.le}:At)else y).n=y.n:=by split<;>exact⟨rfl,rfl⟩
   rw[this.1]at e;rw[this.2];exact h.num y hy r hr e
  ·have:=hc (fun y=>y.1==r.id) s.ah;have e2:St.count {s with ah:=s.ah.map (fun a=>if(a.conn==c)=true then({a with fx:=s.now+s.c.le}:At)else a)} r.id=s.count r.id:=this;rw[e2];exact h.hd r hr rL
 split
 ·split
  ·exact h
  ·split
   ·exact h
   ·exact((h.say _ _).aZ (St.bM hi _ _) _).shut (St.bg (St.bM hi _ _) _) _
 split
 ·split
  ·exact h
  ·exact(h.aZ hi _).again (St.bg hi _) _ _
 split
 ·exact(h.conn c).drain (St.kN hi c) c
 ·exact h
end Ok
namespace Busy
variable{s:St}{P Q:Int->Prop}
theorem say(h:Busy s P)(c:Int)(t:Bs):Busy (s.say c t) P:=h
theorem mono(h:Busy s P)(hq: ∀i,P i->Q i):Busy s Q:=fun r hr hn=>h r hr (fun hp=>hn (hq _ hp))
theorem conn(h:Busy s P)(c:Int):Busy (s.conn c) P:=by obtain⟨e1,e2,e3,_⟩:=St.iZ (s:=s) c;unfold Busy St.waits St.count;rw[e1,e2,e3];exact h
theorem fp(h:Busy s P)(c:Int):Busy (s.fp c) P:=by obtain⟨_,e1,e3,e2,_⟩:=St.vS (s:=s) c;unfold Busy St.waits St.count;rw[e1,e2,e3];exact h
theorem aZ{i:Nat}{a:At}(h:Busy s P)(ha:s.ah[i]?=some a):Busy (s.aZ i) (fun x=>P x∨x=a.id):=by unfold St.aZ;rw[ha];refine fp ?_ _;intro r hr hn;have Xy: ¬P r.id∧r.id≠a.id:=⟨fun h=>hn (.inl h),fun h=>hn (.inr h)⟩;have:=St.count_erase ha r.id;rw[if_neg (Ne.symm Xy.2),Nat.add_zero]at this;rw[this];exact h r hr Xy.1
theorem aX(h:Busy s P)(id:Int)(f:Bool):Busy (s.aX id f) (fun x=>P x∧x≠id):=by
 obtain⟨_,e1,e2,_⟩:=St.fW (s:=s) id f;intro r hr hn;rw[e2]at hr;by_cases e:r.id=id
 ·exact .inl (St.nt r.id id f|>.2 (.inl e))
 ·have:=h r hr (fun hp=>hn ⟨hp,e⟩);rcases this with h|h
  ·exact .inl (St.nt r.id id f|>.2 (.inr h))
  ·right;unfold St.count at h⊢;rw[e1];exact h
theorem bj(h:Busy s P)(id:Int)(f:Rq->Rq)(h1: ∀r,(f r).id=r.id):Busy (s.bj id f) P:=by
 intro r hr hn;rcases bJ hr with hr|⟨y,hy,_,rfl⟩
 ·exact h r hr hn
 ·rw[h1]at hn⊢;exact h y hy hn
theorem uO: ∀(f:Nat) (s:St) (id i:Int),i≠id->(St.stops f s id).count i=s.count i
 |0,_,_,_,_=>rfl
 |f+1,s,id,i,h=>by
  unfold St.stops;split
  ·rfl
  ·rename_i k hk;obtain⟨x,hx,hp⟩:=St.fF hk;rw[hx];dsimp only;rw[uO f _ id i h];have e1:=(St.dD (s:=s.say x.conn (St.aU id x.n)) k).2.1;have:=St.count_erase hx i;have ex:x.id=id:=by simpa using hp
   rw[if_neg (by rw[ex];exact Ne.symm h),Nat.add_zero]at this;rw[<-this];unfold St.count;rw[e1];rfl
theorem shut{id:Int}(h:Busy s (fun x=>P x∨x=id))(hi:Inv s):Busy (s.shut id) P:=by
 intro r hr hn;have hs:=St.jc s.ah.length s id;have rL:r∈dropFirst (fun x=>x.id==id) s.reqs:=by have:r∈dropFirst (fun x=>x.id==id) (St.stops s.ah.length s id).reqs:=hr;rw[hs.reqs]at this;exact this
 have iL:=hi.rid;unfold St.ks at iL;rw[aB]at iL;rw[gT (fun r:Rq=>r.id) id iL]at rL;obtain⟨Wa,cA⟩:=aL.1 rL;have Gu:r.id≠id:=by simpa using cA
 rcases h r Wa (fun hp=>hp.elim hn Gu)with h|h
 ·left;have:((St.stops s.ah.length s id).left id).waits r.id=true:=by
   rw[St.ml];refine⟨Gu, ?_⟩;unfold St.waits at h⊢;rw[hs.ring];exact h
  exact this
 ·right;show 0<(St.stops s.ah.length s id).count r.id;rw[uO _ _ _ _ Gu];exact h
theorem again{id:Int}(h:Busy s (fun x=>P x∨x=id))(hi:Inv s)(counts:Bool):Busy (s.again id counts) P:=by
 unfold St.again;split
 ·rename_i hw;intro r hr hn;by_cases e:r.id=id
  ·rw[e];rw[Bool.or_eq_true]at hw;simpa using hw
  ·exact h r hr (fun hp=>hp.elim hn e)
 ·split
  ·rename_i hr;intro r rL hn;refine h r rL (fun hp=>hp.elim hn (fun e=> ?_));rw[<-e,St.tQ hi rL]at hr;cases hr
  ·split
   ·exact shut (s:=St.say s _ _) h (St.bM hi _ _)
   ·split
    ·exact((h.bj id (fun r=>{r with left:=r.left-1}) (fun _=>rfl)).aX id true).mono (fun i hp=>hp.1.elim (fun h=>h) (fun e=>absurd e hp.2))
    ·exact(h.aX id true).mono (fun i hp=>hp.1.elim (fun h=>h) (fun e=>absurd e hp.2))
theorem give(h:Busy s P)(hi:Inv s)(c:Int)(ws:List Int)(k:Nat):Busy (s.give c ws k) P:=by
 cases hl:s.ring[k]? with
 |none=>unfold St.give;rw[hl];exact h
 |some l=>
  obtain⟨id,r,hid,hr,_⟩:=St.yE hi hl;rw[St.vt hl hid hr];have hp:=St.zX hl hid;intro q hq hn;obtain⟨y,hy,ey⟩: ∃y∈s.reqs,y.id=q.id:=by
   rcases bJ (show q∈aK (·.id==id) (fun r=>({r with n:=r.n+1}:Rq)) s.reqs from hq)with hq|⟨y,hy,_,rfl⟩
   ·exact⟨q,hq,rfl⟩
   ·exact⟨y,hy,rfl⟩
  have hc: ∀i,((s.giving c ws k l id r).say c (St.runText r (r.n+1))).count i=s.count i+if id=i then 1 else 0:=by intro i;unfold St.count St.giving St.say;dsimp only;rw[List.countP_append];simp
  rw[hc,<-ey];by_cases e:id=y.id
  ·right;rw[if_pos e];omega
  ·rcases h y hy (by rw[ey];exact hn)with h|h
   ·left;rw[St.cS]at h⊢;rcases List.mem_cons.1 (hp.mem_iff.1 h)with e'|e'
    ·exact absurd e'.symm e
    ·exact e'
   ·right;omega
theorem bR: ∀(f:Nat) {s:St},Busy s P->Inv s->Busy (St.bR f s) P
 |0,_,h,_=>h
 |f+1,s,h,hi=>by
  unfold St.bR;split
  ·exact h
  ·rename_i c ws hw;split
   ·exact h
   ·exact bR f (h.give hi c ws _) (St.kQ hi c ws (by rw[hw];exact List.sublist_cons_self ..) _)
theorem serve(h:Busy s P)(hi:Inv s):Busy s.serve P:=bR _ h hi
end Busy
end Mc
namespace Mc
open bG
namespace St
variable{s:St}
theorem nN{c id n:Int}{i:Nat}(h:s.mine c id n=some i): ∃a,s.ah[i]?=some a∧a.id=id∧a.n=n∧a.conn=c∧s.Ck id n=some i:=by
 unfold mine at h;split at h
 ·cases h
 ·rename_i k hk;split at h
  ·cases h
  ·rename_i a ha;split at h
   ·rename_i hc;cases h;obtain⟨x,hx,hp⟩:=fF hk;rw[ha]at hx;cases hx;simp only[bm,beq_iff_eq]at hp;exact⟨a,ha,hp.1,hp.2,by simpa using hc,hk⟩
   ·cases h
end St
namespace Busy
variable{s:St}{P Q:Int->Prop}
theorem cf(h:Busy s P)(c:Int)(m:Mg):Busy (s.cf c m) P:=by
 unfold St.cf;split
 ·exact h
 ·split
  ·exact h
  ·have h1:Busy (s.more ⟨m.id,c,m.ten,m.txt,0,s.c.re,false⟩) (fun x=>P x∨x=m.id):=by
    intro r hr hn;rcases List.mem_append.1 hr with hr|hr
    ·exact h r hr (fun hp=>hn (.inl hp))
    ·obtain rfl:=b9.1 hr;exact absurd (.inr rfl) hn
   exact((h1.say c ([97,99,99,32]++bZ m.id)).aX m.id false).mono (fun i hp=>hp.1.elim (fun h=>h) (fun e=>absurd e hp.2))
theorem message(h:Busy s P)(hi:Inv s)(c:Int)(m:Mg):Busy (s.message c m) P:=by
 unfold St.message;split
 ·exact h.cf c m
 split
 ·split
  ·exact h
  ·split
   ·have h1:Busy s (fun x=>P x∨x=m.id):=h.mono (fun _ hp=> .inl hp);exact shut (s:=s.say _ _) h1 (St.bM hi _ _)
   ·exact h
 split
 ·split
  ·exact h
  ·dsimp only;split
   ·exact h.conn c
   ·exact h.conn c
 split
 ·intro r hr hn;rcases h r hr hn with h|h
  ·exact .inl h
  ·right;unfold St.count at h⊢;dsimp only;rw[List.countP_map];have:((fun x:At=>x.id==r.id)∘fun a=>if(a.conn==c)=true then({a with fx:=s.now+s.c.le}:At)else a)=fun x=>x.id==r.id:=by
    funext a;simp only[Function.comp_def];split<;>rfl
   rw[this];exact h
 split
 ·split
  ·exact h
  ·rename_i i hm;obtain⟨a,ha,e,_⟩:=St.nN hm;split
   ·exact h
   ·exact shut (e▸aZ (s:=s.say _ _) h ha) (St.bg (St.bM hi _ _) _)
 split
 ·split
  ·exact h
  ·rename_i i hm;obtain⟨a,ha,e,_⟩:=St.nN hm;exact again (e▸h.aZ ha) (St.bg hi _) _
 split
 ·exact fp (s:=St.idle {s.conn c with aq:=aK (fun x=>x.n==c) (fun x=>{x with drains:=true}) (s.conn c).aq} c) (h.conn c) c
 ·exact h
theorem bV: ∀(f:Nat) {s:St},Busy s P->Inv s->Busy (St.bV f s) P
 |0,_,h,_=>h
 |f+1,s,h,hi=>by
  unfold St.bV;split
  ·exact h
  ·split
   ·exact h
   ·rename_i a ha;have h1:=St.bM hi a.conn (St.aU a.id a.n);exact bV f (again (aZ (s:=s.say _ _) h ha) (St.bg h1 _) _) (St.dn (St.bg h1 _) _ _)
theorem bk(h:Busy s P)(a:At):Busy (s.bk a) P:=by
 unfold St.bk;split
 ·exact h
 ·split
  ·exact((h.bj a.id (fun r=>{r with hedged:=true}) (fun _=>rfl)).aX _ _).mono (fun _ hp=>hp.1)
  ·exact h
theorem fold: ∀(l:List At) {s:St},Busy s P->Busy (l.foldl St.bk s) P
 | [],_,h=>h
 |a::l,s,h=>by rw[List.foldl_cons];exact fold l (h.bk a)
theorem tick(h:Busy s P)(hi:Inv s):Busy s.tick P:=
 serve (s:=St.dE _) (fold _ (bV _ (s:={s with now:=s.now+1}) h (St.kx hi _))) (St.jm (St.gX _ (St.kx hi _)))
theorem bp: ∀(f:Nat) {s:St} (i:Nat) (id c:Int),Busy s (fun x=>P x∨x=id)->Busy (St.bp f s i id c) (fun x=>P x∨x=id)
 |0,_,_,_,_,h=>h
 |f+1,s,i,id,c,h=>by
  unfold St.bp;split
  ·exact h
  ·rename_i a ha;split
   ·rename_i hc;have e:a.id=id:=by simp at hc;exact hc.1
    exact bp f _ _ _ ((h.aZ ha).mono (fun x hp=>hp.elim (fun h=>h) (fun h=> .inr (h.trans e))))
   ·exact bp f _ _ _ h
theorem aM: ∀(f:Nat) {s:St} (c:Int),Busy s P->Inv s->Busy (St.aM f s c) P
 |0,_,_,h,_=>h
 |f+1,s,c,h,hi=>by
  unfold St.aM;split
  ·exact h
  ·rename_i id _;have zu:=(St.dO s.ah.length s 0 id c).inv hi;exact aM f c (shut (bp _ 0 id c (h.mono (fun _ hp=> .inl hp))) zu) (St.iF zu _)
theorem aP: ∀(f:Nat) {s:St} (c:Int),Busy s P->Inv s->Busy (St.aP f s c) P
 |0,_,_,h,_=>h
 |f+1,s,c,h,hi=>by
  unfold St.aP;split
  ·exact h
  ·split
   ·exact h
   ·rename_i a ha;exact aP f c (again (h.aZ ha) (St.bg hi _) _) (St.dn (St.bg hi _) _ _)
theorem close(h:Busy s P)(hi:Inv s)(c:Int):Busy (s.close c) P:=by have h1:=St.jr hi c;have y7:Inv ({s.idle c with aq:=(s.idle c).aq.filter (·.n !=c)}:St):=⟨h1.rid,h1.bF,h1.ring,h1.fu,h1.once,(List.filter_sublist.map _).nodup h1.cn,h1.wt⟩;exact(aP _ _ (aM _ _ (s:={s.idle c with aq:=(s.idle c).aq.filter (·.n !=c)}) h y7) (St.cP _ _ y7)).serve (St.fo _ _ (St.cP _ _ y7))
end Busy
end Mc
namespace Mc
open bG
namespace St
def aS(s:St)(t:Bs):List Int:=match s.ring.find? (·.ten==t)with|some l=>l.ids|none=> []
def nums(s:St)(id:Int):List Int:=(s.ah.filter (·.id==id)).map (·.n)
end St
end Mc
namespace Pj
open Mc bG
structure Gh where
 rp:Int->Nat
 tp:Bs->Nat
 ap:Int×Int->Nat
 sr:Int×Int->Int
structure Rr where
 q:Rq
 al:List Int
structure Tr where
 nm:Bs
 wt:List Int
 rn:Int
structure Kn where
 n:Int
 p:Nat
 kept:Bs
 dr:Bool
structure Js where
 c:pz
 now:Int
 begun:Nat
 bu:List Kn
 reqs:List Rr
 aQ:List Tr
 ring:List Bs
 pull:List Int
 hp:List At
def key(a:At):Int×Int:=(a.id,a.n)
def fJ(g:Gh)(a b:At):Prop:=a.fx<b.fx∨a.fx=b.fx∧g.sr (key a)<=g.sr (key b)
theorem iT(g:Gh):Hp.Ord (fJ g):=by
 refine⟨fun h1 h2=> ?_,fun a b=> ?_⟩
 ·unfold fJ at*;omega
 ·unfold fJ;omega
def upd{α κ:Type} [DecidableEq κ](k:α->κ)(c:κ)(f:α->α)(l:List α):List α:=l.map (fun x=>if k x=c then f x else x)
section upd
variable{α κ:Type} [DecidableEq κ]{k:α->κ}{c:κ}{f:α->α}{l:List α}
theorem Bt{y:α}(h:y∈upd k c f l):(y∈l∧k y≠c)∨ ∃x∈l,k x=c∧y=f x:=by
 obtain⟨x,hx,rfl⟩:=az.1 h;by_cases e:k x=c
 ·right;exact⟨x,hx,e,by rw[if_pos e]⟩
 ·left;rw[if_neg e];exact⟨hx,e⟩
theorem fR{β:Type}(m:α->β)(h: ∀x∈l,k x=c->m (f x)=m x):(upd k c f l).map m=l.map m:=by
 unfold upd;rw[aB];refine bz fun x hx=> ?_;simp only[Function.comp_def];split
 ·rename_i e;exact h x hx e
 ·rfl
theorem BJ{x:α}(hx:x∈l)(e:k x=c):f x∈upd k c f l:=az.2 ⟨x,hx,by rw[if_pos e]⟩
end upd
namespace Js
def drains(j:Js)(c:Int):Bool:=match j.bu.find? (·.n==c)with|some k=>k.dr|none=>false
def TX(j:Js)(id:Int)(f:Rr->Rr):Js:={j with reqs:=upd (fun r:Rr=>r.q.id) id f j.reqs}
def wait(j:Js)(x:Tr)(id:Int)(first:Bool):Js:=
 {j with ring:=if x.wt= []then j.ring++ [x.nm]else j.ring,aQ:=upd (fun t:Tr=>t.nm) x.nm (fun t=>{t with wt:=if first then id::t.wt else t.wt++ [id]}) j.aQ}
def left(j:Js)(x:Tr)(id:Int):Js:=
 {j with ring:=if x.wt.erase id= []then j.ring.erase x.nm else j.ring,aQ:=upd (fun t:Tr=>t.nm) x.nm (fun t=>{t with wt:=t.wt.erase id}) j.aQ}
def gave(j:Js)(x:Tr)(a:At)(hp:List At):Js:=
 {j with pull:=j.pull.tail,ring:=j.ring.erase x.nm++(if x.wt.erase a.id= []then []else [x.nm]),aQ:=upd (fun t:Tr=>t.nm) x.nm (fun t=>{t with wt:=t.wt.erase a.id,rn:=t.rn+1}) j.aQ,reqs:=upd (fun r:Rr=>r.q.id) a.id (fun r=>⟨{r.q with n:=r.q.n+1},r.al++ [a.n]⟩) j.reqs,hp:=hp,begun:=j.begun+1}
def ended(j:Js)(a:At)(t:Bs)(hp:List At):Js:=
 {j with reqs:=upd (fun r:Rr=>r.q.id) a.id (fun r=>{r with al:=r.al.erase a.n}) j.reqs,aQ:=upd (fun t:Tr=>t.nm) t (fun t=>{t with rn:=t.rn-1}) j.aQ,hp:=hp}
end Js
structure Rel(g:Gh)(j:Js)(s:St):Prop where
 c:j.c=s.c
 now:j.now=s.now
 begun:j.begun=s.begun
 pull:j.pull=s.wait
 ring:j.ring=s.ring.map (·.ten)
 reqs:j.reqs.map (·.q)=s.reqs
 al: ∀r∈j.reqs,r.al=s.nums r.q.id
 nX:(j.aQ.map (·.nm)).Nodup
 wt: ∀t∈j.aQ,t.wt=s.aS t.nm
 rn: ∀t∈j.aQ,t.rn=s.runs t.nm
 ten: ∀r∈s.reqs,r.ten∈j.aQ.map (·.nm)
 zf: ∀t∈j.aQ,∃r∈s.reqs,r.ten=t.nm
 hp:j.hp.Perm s.ah
 heap:Hp.Heap (fJ g) j.hp j.hp.length
 D8:(s.ah.map fun a=>g.sr (key a)).Pairwise (· < ·)
 oz: ∀a∈s.ah,0<=g.sr (key a)∧g.sr (key a)<=s.begun
 cnd:(j.bu.map (·.n)).Nodup
 cin: ∀k∈j.bu,k.n∈s.aq.map (·.n)
 dr: ∀c,j.drains c=s.drains c
