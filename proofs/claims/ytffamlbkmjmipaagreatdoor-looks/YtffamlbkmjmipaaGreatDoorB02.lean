import Derived.Test.YtffamlbkmjmipaaGreatDoorB01
set_option maxHeartbeats 8000000
set_option maxRecDepth 100000
namespace Go.Proofs.YtffamlbkmjmipaaGreatDoor
namespace bJ
open Go.RowKit
structure Mg where
 kind:List UInt8
 id:Int
 bS:Int
 ten:List UInt8
 txt:List UInt8
def Mg.cs(m:Mg):Array Value:= #[.string ⟨m.kind.toArray⟩, .int .i64 m.id, .int .i64 m.bS, .string ⟨m.ten.toArray⟩, .string ⟨m.txt.toArray⟩]
def eF:List UInt8:= [112,117,108,108]
def eU:List UInt8:= [98,101,97,116]
def dp:List UInt8:= [100,114,97,105,110]
def gi:List UInt8:= [99,97,110]
def kFail:List UInt8:= [102,97,105,108]
def cH:List UInt8:= [100,111,110,101]
def fC:List UInt8:= [115,117,98]
end bJ
namespace Mc
open bJ
abbrev Bs:=List UInt8
structure Cn where
 n:Int
 rest:Bs
 drains:Bool
 gone:Bool
 deriving DecidableEq
structure uF where
 le:Int
 re:Int
 ca:Int
 bo:Int
 he:Int
 deriving DecidableEq
structure Rq where
 id:Int
 conn:Int
 ten:Bs
 txt:Bs
 n:Int
 left:Int
 bn:Bool
 deriving DecidableEq
structure At where
 id:Int
 n:Int
 conn:Int
 k7:Int
 eV:Int
 deriving DecidableEq
structure Ln where
 ten:Bs
 ids:List Int
 deriving DecidableEq
structure St where
 c:uF
 now:Int:=0
 reqs:List Rq:= []
 af:List At:= []
 ring:List Ln:= []
 wait:List Int:= []
 aq:List Cn:= []
 out:List (Int×Bs):= []
 begun:Nat:=0
 deriving DecidableEq
def pV:Nat->Nat->Bs
 |0,_=> []
 |f+1,n=>if n<10 then [UInt8.ofNat (48+n)]else pV f (n/10)++ [UInt8.ofNat (48+n %10)]
def cJ(x:Int):Bs:=pV 20 x.toNat
def aK{α:Type}(p:α->Bool)(f:α->α):List α->List α
 | []=> []
 |x::l=>if p x then f x::l else x::aK p f l
def dropFirst{α:Type}(p:α->Bool):List α->List α
 | []=> []
 |x::l=>if p x then l else x::dropFirst p l
namespace St
def say(s:St)(c:Int)(t:Bs):St:={s with out:=s.out++ [(c,t)]}
def told(s:St):St:={s with out:= []}
def conn(s:St)(c:Int):St:=if s.aq.any (·.n==c)then s else{s with aq:=s.aq++ [⟨c, [],false,false⟩]}
def drains(s:St)(c:Int):Bool:=match s.aq.find? (·.n==c)with|some x=>x.drains|none=>false
def req(s:St)(id:Int):Option Rq:=s.reqs.find? (·.id==id)
def ten(s:St)(id:Int):Bs:=match s.req id with|some r=>r.ten|none=> []
def held(s:St)(c:Int):Nat:=s.af.countP (·.conn==c)
def count(s:St)(id:Int):Nat:=s.af.countP (·.id==id)
def waits(s:St)(id:Int):Bool:=s.ring.any (·.ids.any (· ==id))
def runs(s:St)(t:Bs):Nat:=s.af.countP (fun a=>s.ten a.id==t)
def fJ(s:St)(c:Int):St:=
 if s.aq.any (fun x=>x.n==c &&x.drains && !x.gone) &&s.held c==0 then
  {s with aq:=aK (fun x=>x.n==c) (fun x=>{x with gone:=true}) s.aq}.say c [98,121,101]
 else s
def aS(s:St)(i:Nat):St:=
 match s.af[i]? with
 |some a=>{s with af:=s.af.eraseIdx i}.fJ a.conn
 |none=>s
def idle(s:St)(c:Int):St:={s with wait:=s.wait.filter (· !=c)}
def a6(s:St)(id:Int)(first:Bool):St:=
 if s.ring.any (·.ten==s.ten id)then
  {s with ring:=aK (·.ten==s.ten id) (fun l=>{l with ids:=if first then id::l.ids else l.ids++ [id]}) s.ring}
 else{s with ring:=s.ring++ [⟨s.ten id, [id]⟩]}
def left(s:St)(id:Int):St:=
 {s with ring:=(s.ring.map (fun l=>({l with ids:=l.ids.filter (· !=id)}:Ln))).filter (fun l=> !l.ids.isEmpty)}
def aD(id n:Int):Bs:= [115,116,111,112,32]++cJ id++ [32]++cJ n
def stops:Nat->St->Int->St
 |0,s,_=>s
 |f+1,s,id=>
  match s.af.findIdx? (·.id==id)with
  |none=>s
  |some i=>
   match s.af[i]? with
   |none=>s
   |some a=>stops f ((s.say a.conn (aD id a.n)).aS i) id
def shut(s:St)(id:Int):St:=
 let s:=(stops s.af.length s id).left id
 {s with reqs:=dropFirst (·.id==id) s.reqs}
def bu(s:St)(id:Int)(f:Rq->Rq):St:={s with reqs:=aK (·.id==id) f s.reqs}
def again(s:St)(id:Int)(counts:Bool):St:=
 if s.waits id||0<s.count id then s else
 match s.req id with
 |none=>s
 |some r=>
  if counts &&r.left==0 then(s.say r.conn ([101,114,114,32]++cJ id)).shut id
  else(if counts then s.bu id (fun r=>{r with left:=r.left-1})else s).a6 id true
def runText(r:Rq)(n:Int):Bs:= [114,117,110,32]++cJ r.id++ [32]++cJ n++ [32]++r.ten++ [32]++r.txt
def rest(l:Ln):List Ln:=match l.ids with|_::i::r=> [⟨l.ten,i::r⟩]|_=> []
def give(s:St)(c:Int)(ws:List Int)(k:Nat):St:=
 match s.ring[k]? with
 |none=>s
 |some l=>
  match l.ids.head? with
  |none=>s
  |some id=>
   match s.req id with
   |none=>s
   |some r=>({s with wait:=ws,ring:=s.ring.eraseIdx k++rest l,reqs:=aK (·.id==id) (fun r=>{r with n:=r.n+1}) s.reqs,af:=s.af++ [⟨id,r.n+1,c,s.now,s.now+s.c.le⟩],begun:=s.begun+1}:St).say c (runText r (r.n+1))
def cS:Nat->St->St
 |0,s=>s
 |f+1,s=>
  match s.wait with
  | []=>s
  |c::ws=>
   match s.ring.findIdx? (fun l=>(s.runs l.ten:Int)<s.c.ca)with
   |none=>s
   |some k=>cS f (s.give c ws k)
def serve(s:St):St:=cS s.wait.length s
def dD(now:Int):List At->Nat->Option (Nat×Int)->Option (Nat×Int)
 | [],_,b=>b
 |a::l,i,b=>dD now l (i+1) (if a.eV<=now then(match b with|none=>some (i,a.eV)|some (j,t)=>if a.eV<t then some (i,a.eV)else some (j,t))else b)
def due(s:St):Option Nat:=(dD s.now s.af 0 none).map (·.1)
def cV:Nat->St->St
 |0,s=>s
 |f+1,s=>
  match s.due with
  |none=>s
  |some i=>
   match s.af[i]? with
   |none=>s
   |some a=>cV f (((s.say a.conn (aD a.id a.n)).aS i).again a.id true)
def bA(s:St)(a:At):St:=
 match s.req a.id with
 |none=>s
 |some r=>
  if 0<s.c.he &&s.c.he<=s.now-a.k7 && !r.bn && !s.waits a.id &&s.count a.id==1 then
   (s.bu a.id (fun r=>{r with bn:=true})).a6 a.id false
  else s
def eE(s:St):St:=s.af.foldl bA s
def tick(s:St):St:=
 let s:={s with now:=s.now+1}
 (cV s.af.length s).eE.serve
def least(s:St)(c:Int):Option Int:=
 s.reqs.foldl (fun b r=>if r.conn==c &&(match b with|none=>true|some i=>decide (r.id<i))then some r.id else b) none
def bH:Nat->St->Nat->Int->Int->St
 |0,s,_,_,_=>s
 |f+1,s,i,id,c=>
  match s.af[i]? with
  |none=>s
  |some a=>if a.id==id &&a.conn==c then bH f (s.aS i) i id c else bH f s (i+1) id c
def aQ:Nat->St->Int->St
 |0,s,_=>s
 |f+1,s,c=>
  match s.least c with
  |none=>s
  |some id=>aQ f ((bH s.af.length s 0 id c).shut id) c
def aP:Nat->St->Int->St
 |0,s,_=>s
 |f+1,s,c=>
  match s.af.findIdx? (·.conn==c)with
  |none=>s
  |some i=>
   match s.af[i]? with
   |none=>s
   |some a=>aP f ((s.aS i).again a.id false) c
def close(s:St)(c:Int):St:=
 let s:=s.idle c
 let s:={s with aq:=s.aq.filter (·.n !=c)}
 let s:=aQ s.reqs.length s c
 (aP s.af.length s c).serve
def queued(s:St):Nat:=(s.ring.map (·.ids.length)).sum
def bU(s:St)(c:Int)(m:Mg):St:=
 if(s.req m.id).isSome then s.say c ([114,101,106,32]++cJ m.id++ [32,100,117,112])
 else if s.ring.any (fun l=>l.ten==m.ten &&decide (s.c.bo<=(l.ids.length:Int)))then s.say c ([114,101,106,32]++cJ m.id++ [32,102,117,108,108])
 else(({s with reqs:=s.reqs++ [⟨m.id,c,m.ten,m.txt,0,s.c.re,false⟩]}:St).say c ([97,99,99,32]++cJ m.id)).a6 m.id false
def xU(s:St)(id n:Int):Option Nat:=s.af.findIdx? (fun a=>a.id==id &&a.n==n)
def mine(s:St)(c id n:Int):Option Nat:=
 match s.xU id n with
 |none=>none
 |some i=>match s.af[i]? with|none=>none|some a=>if a.conn==c then some i else none
def message(s:St)(c:Int)(m:Mg):St:=
 if m.kind=fC then s.bU c m
 else if m.kind=gi then
  match s.req m.id with
  |none=>s.say c ([110,111,110,101,32]++cJ m.id)
  |some r=>if r.conn==c then(s.say c ([103,111,110,101,32]++cJ m.id)).shut m.id else s.say c ([110,111,110,101,32]++cJ m.id)
 else if m.kind=eF then
  if s.wait.any (· ==c)then s
  else
   let s:=s.conn c
   if s.drains c then s else{s with wait:=s.wait++ [c]}
 else if m.kind=eU then
  {s with af:=s.af.map (fun a=>if a.conn==c then{a with eV:=s.now+s.c.le}else a)}
 else if m.kind=cH then
  match s.mine c m.id m.bS with
  |none=>s
  |some i=>
   match s.req m.id with
   |none=>s
   |some r=>((s.say r.conn ([118,97,108,32]++cJ m.id++ [32]++m.txt)).aS i).shut m.id
 else if m.kind=kFail then
  match s.mine c m.id m.bS with
  |none=>s
  |some i=>(s.aS i).again m.id true
 else if m.kind=dp then
  let s:=s.conn c
  let s:={s with aq:=aK (fun x=>x.n==c) (fun x=>{x with drains:=true}) s.aq}
  (s.idle c).fJ c
 else s
end St
end Mc
namespace Mc
open bJ
section lists
variable{α β:Type}
theorem cr(p:α->Bool)(f:α->α)(g:α->β)(hg: ∀x,g (f x)=g x)(l:List α):(aK p f l).map g=l.map g:=by
 induction l with
 |nil=>rfl
 |cons x l ih=>unfold aK;split<;>simp[hg,ih]
theorem cR{p:α->Bool}{f:α->α}{l:List α}{x:α}(h:x∈aK p f l):x∈l∨ ∃y∈l,p y=true∧x=f y:=by
 induction l with
 |nil=>cases h
 |cons y l ih=>
  unfold aK at h;split at h
  ·rename_i hp;rcases List.mem_cons.1 h with h|h
   ·exact .inr ⟨y,dy ..,hp,h⟩
   ·exact .inl (bt _ h)
  ·rcases List.mem_cons.1 h with h|h
   ·exact .inl (h▸dy ..)
   ·rcases ih h with h|⟨z,hz,h⟩
    ·exact .inl (bt _ h)
    ·exact .inr ⟨z,bt _ hz,h⟩
theorem dh(p:α->Bool)(f:α->α)(l:List α):(aK p f l).length=l.length:=by have:=congrArg List.length (cr p f (fun _=>()) (fun _=>rfl) l);simpa using this
theorem gp(p:α->Bool)(l:List α):(dropFirst p l).Sublist l:=by
 induction l with
 |nil=>exact List.Sublist.refl _
 |cons x l ih=>
  unfold dropFirst;split
  ·exact List.sublist_cons_self ..
  ·exact ih.cons_cons _
theorem Ax{p:α->Bool}{l:List α}{x:α}(h:x∈l)(hp:p x=false):x∈dropFirst p l:=by
 induction l with
 |nil=>cases h
 |cons y l ih=>
  unfold dropFirst;split
  ·rename_i hy;rcases List.mem_cons.1 h with h|h
   ·subst h;rw[hp]at hy;cases hy
   ·exact h
  ·rcases List.mem_cons.1 h with h|h
   ·exact h▸dy ..
   ·exact bt _ (ih h)
end lists
def St.ks(s:St):List (Int×Bs):=s.reqs.map fun r=>(r.id,r.ten)
structure Inv(s:St):Prop where
 rid:(s.ks.map (·.1)).Nodup
 bS: ∀a∈s.af,a.id∈s.ks.map (·.1)
 ring: ∀l∈s.ring,l.ids≠ []∧ ∀i∈l.ids,(i,l.ten)∈s.ks
 fP:(s.ring.map (·.ten)).Nodup
 once:(s.ring.flatMap (·.ids)).Nodup
 cn:(s.aq.map (·.n)).Nodup
 wt:s.wait.Nodup
namespace St
theorem lM{s:St}{i:Int}{t:Bs}(h:(i,t)∈s.ks):i∈s.ks.map (·.1):=aA.2 ⟨_,h,rfl⟩
theorem cz{s:St}{i:Int}(h:i∈s.ks.map (·.1)): ∃r,s.req i=some r∧r∈s.reqs∧r.id=i:=by unfold ks at h;rw[aG]at h;obtain⟨r,hr,e⟩:=aA.1 h;have:(s.reqs.find? (·.id==i)).isSome:=List.find?_isSome.2 ⟨r,hr,by simpa using e⟩;obtain⟨r',h'⟩:=Option.isSome_iff_exists.1 this;exact⟨r',h',dT h',by simpa using List.find?_some h'⟩
theorem oY{s:St}{i:Int}{r:Rq}(h:s.req i=some r):r∈s.reqs∧r.id=i∧(i,r.ten)∈s.ks:=by
 have h1:=dT h;have h2:r.id=i:=by simpa using List.find?_some h
 refine⟨h1,h2,aA.2 ⟨r,h1,by rw[h2]⟩⟩
theorem Yp{l:List (Int×Bs)}(h:(l.map (·.1)).Nodup){i:Int}{t t':Bs}(h1:(i,t)∈l)(h2:(i,t')∈l):t=t':=by
 induction l with
 |nil=>cases h1
 |cons x l ih=>
  rw[List.map_cons,List.nodup_cons]at h;rcases List.mem_cons.1 h1 with e1|e1
  ·rcases List.mem_cons.1 h2 with e2|e2
   ·rw[<-e1]at e2;exact(Prod.mk.inj e2).2.symm
   ·exact absurd (aA.2 ⟨_,e2,by rw[<-e1]⟩) h.1
  ·rcases List.mem_cons.1 h2 with e2|e2
   ·exact absurd (aA.2 ⟨_,e1,by rw[<-e2]⟩) h.1
   ·exact ih h.2 e1 e2
theorem zw{s:St}(hi:Inv s){i:Int}{t:Bs}(h:(i,t)∈s.ks):s.ten i=t:=by obtain⟨r,hr,hm,e⟩:=cz (lM h);unfold ten;rw[hr];exact Yp hi.rid (aA.2 ⟨r,hm,by rw[e]⟩) h
theorem Vf{s:St}{i:Int}(h:i∈s.ks.map (·.1)):(i,s.ten i)∈s.ks:=by obtain⟨r,hr,hm,e⟩:=cz h;unfold ten;rw[hr];exact aA.2 ⟨r,hm,by rw[e]⟩
theorem eD{s:St}{i:Int}:s.waits i=true↔i∈s.ring.flatMap (·.ids):=by unfold waits;simp[List.any_eq_true,List.mem_flatMap]
variable{s:St}
theorem Ri(c:Int)(t:Bs):(s.say c t).ks=s.ks:=rfl
theorem bM(h:Inv s)(c:Int)(t:Bs):Inv (s.say c t):=⟨h.rid,h.bS,h.ring,h.fP,h.once,h.cn,h.wt⟩
theorem RH(h:Inv s):Inv s.told:=⟨h.rid,h.bS,h.ring,h.fP,h.once,h.cn,h.wt⟩
theorem lA(h:Inv s)(c:Int):Inv (s.conn c):=by
 unfold conn;split
 ·exact h
 ·rename_i hn;refine⟨h.rid,h.bS,h.ring,h.fP,h.once, ?_,h.wt⟩;show((s.aq++ [(⟨c, [],false,false⟩:Cn)]).map (·.n)).Nodup;rw[aH,List.nodup_append];refine⟨h.cn,by simp,fun a ha b hb=> ?_⟩;simp at hb;subst hb;intro e;apply hn;obtain⟨x,hx,rfl⟩:=aA.1 ha;rw[List.any_eq_true];exact⟨x,hx,by simpa using e⟩
theorem k5(h:Inv s)(f:Cn->Cn)(hf: ∀x,(f x).n=x.n)(p:Cn->Bool):Inv {s with aq:=aK p f s.aq}:=
 ⟨h.rid,h.bS,h.ring,h.fP,h.once,by show((aK p f s.aq).map (·.n)).Nodup;rw[cr p f (·.n) hf];exact h.cn,h.wt⟩
theorem J6(h:Inv s)(c:Int):Inv (s.fJ c):=by
 unfold fJ;split
 ·exact bM (k5 h (fun x=>{x with gone:=true}) (fun _=>rfl) _) _ _
 ·exact h
theorem sx(c:Int):(s.fJ c).ks=s.ks∧(s.fJ c).af=s.af∧(s.fJ c).ring=s.ring∧(s.fJ c).reqs=s.reqs∧(s.fJ c).wait=s.wait∧(s.fJ c).c=s.c∧(s.fJ c).now=s.now:=by
 unfold fJ;split
 ·exact⟨rfl,rfl,rfl,rfl,rfl,rfl,rfl⟩
 ·exact⟨rfl,rfl,rfl,rfl,rfl,rfl,rfl⟩
theorem tB(h:Inv s)(l:List At)(hl: ∀a∈l,a.id∈s.ks.map (·.1)):Inv {s with af:=l}:=⟨h.rid,hl,h.ring,h.fP,h.once,h.cn,h.wt⟩
theorem br(h:Inv s)(i:Nat):Inv (s.aS i):=by
 unfold aS;split
 ·exact J6 (tB h _ (fun a ha=>h.bS a (List.mem_of_mem_eraseIdx ha))) _
 ·exact h
theorem cG(i:Nat):(s.aS i).ks=s.ks∧(s.aS i).af=s.af.eraseIdx i∧(s.aS i).ring=s.ring∧(s.aS i).reqs=s.reqs∧(s.aS i).wait=s.wait∧(s.aS i).c=s.c∧(s.aS i).now=s.now:=by
 unfold aS;split
 ·exact sx _
 ·rename_i e;have:s.af.length<=i:=List.getElem?_eq_none_iff.1 e;exact⟨rfl,(List.eraseIdx_of_length_le this).symm,rfl,rfl,rfl,rfl,rfl⟩
theorem iY(h:Inv s)(c:Int):Inv (s.idle c):=⟨h.rid,h.bS,h.ring,h.fP,h.once,h.cn,h.wt.filter _⟩
theorem zq(h:Inv s)(r:List Ln)(h1: ∀l∈r,l.ids≠ []∧ ∀i∈l.ids,(i,l.ten)∈s.ks)(h2:(r.map (·.ten)).Nodup)(h3:(r.flatMap (·.ids)).Nodup):Inv {s with ring:=r}:=
 ⟨h.rid,h.bS,h1,h2,h3,h.cn,h.wt⟩
theorem yu{id:Int}{first:Bool}{t:Bs}: ∀{r:List Ln},r.any (·.ten==t)=true->(id::r.flatMap (·.ids)).Perm ((aK (·.ten==t) (fun l=>{l with ids:=if first then id::l.ids else l.ids++ [id]}) r).flatMap (·.ids))
 | [],h=>by simp at h
 |l::r,h=>by
  unfold aK;by_cases hl:(l.ten==t)=true
  ·rw[if_pos hl];simp only[List.flatMap_cons];cases first
   ·simp only[Bool.false_eq_true,if_false];rw[List.append_assoc];exact List.perm_middle.symm
   ·simp
  ·rw[if_neg hl];simp only[List.flatMap_cons];have hr:r.any (·.ten==t)=true:=by simpa[hl]using h
   exact(List.perm_middle.symm).trans ((yu hr).append_left l.ids)
theorem lu(h:Inv s){id:Int}(hid:id∈s.ks.map (·.1))(hw:s.waits id=false)(first:Bool):Inv (s.a6 id first):=by
 have hn:id∉s.ring.flatMap (·.ids):=fun e=>by rw[eD.2 e]at hw;cases hw
 have hk:=Vf hid;unfold a6;split
 ·rename_i ha;refine zq h _ (fun l hl=> ?_) ?_ ?_
  ·rcases cR hl with hl|⟨l',PL,ht,rfl⟩
   ·exact h.ring l hl
   ·obtain⟨h1,h2⟩:=h.ring l' PL;have El:l'.ten=s.ten id:=by simpa using ht
    refine⟨?_,fun i hi=> ?_⟩
    ·dsimp only;split<;>simp
    ·dsimp only at hi⊢;split at hi
     ·rcases List.mem_cons.1 hi with e|e
      ·rw[e,El];exact hk
      ·exact h2 i e
     ·rcases List.mem_append.1 hi with e|e
      ·exact h2 i e
      ·rw[cY.1 e,El];exact hk
  ·rw[cr (·.ten==s.ten id) (fun l:Ln=>{l with ids:=if first then id::l.ids else l.ids++ [id]}) (·.ten) (fun _=>rfl)];exact h.fP
  ·exact(yu (id:=id) (first:=first) ha).nodup_iff.1 (List.nodup_cons.2 ⟨hn,h.once⟩)
 ·rename_i ha;refine zq h _ (fun l hl=> ?_) ?_ ?_
  ·rcases List.mem_append.1 hl with hl|hl
   ·exact h.ring l hl
   ·obtain rfl:=cY.1 hl;refine⟨by simp,fun i hi=> ?_⟩;rw[cY.1 hi];exact hk
  ·rw[aH,List.nodup_append];refine⟨h.fP,by simp,fun a h1 b hb e=>ha ?_⟩;obtain⟨l,hl,rfl⟩:=aA.1 h1;rw[List.any_eq_true];refine⟨l,hl, ?_⟩;simp at hb;subst hb;simpa using e
  ·rw[List.flatMap_append,List.nodup_append];refine⟨h.once,by simp,fun a h1 b hb e=>hn ?_⟩;simp at hb;subst hb;exact e▸h1
theorem fQ(id:Int)(first:Bool):(s.a6 id first).ks=s.ks∧(s.a6 id first).af=s.af∧(s.a6 id first).reqs=s.reqs∧(s.a6 id first).wait=s.wait∧(s.a6 id first).aq=s.aq∧(s.a6 id first).out=s.out∧(s.a6 id first).c=s.c∧(s.a6 id first).now=s.now:=by unfold a6;split<;>exact⟨rfl,rfl,rfl,rfl,rfl,rfl,rfl,rfl⟩
theorem vo(r:List Ln)(id:Int):((r.map (fun l=>({l with ids:=l.ids.filter (· !=id)}:Ln))).filter (fun l=> !l.ids.isEmpty)).flatMap (·.ids)=(r.flatMap (·.ids)).filter (· !=id):=by
 induction r with
 |nil=>rfl
 |cons l r ih=>
  rw[List.map_cons,List.filter_cons,List.flatMap_cons,List.filter_append,<-ih];split
  ·rw[List.flatMap_cons]
  ·rename_i h;have:l.ids.filter (· !=id)= []:=by simpa using h
   rw[this];rfl
theorem tW(h:Inv s)(id:Int):Inv (s.left id):=by
 refine zq h _ (fun l hl=> ?_) ?_ ?_
 ·obtain⟨hl,cC⟩:=aR.1 hl;obtain⟨l',PL,rfl⟩:=aA.1 hl;refine⟨by simpa using cC,fun i hi=> ?_⟩;exact(h.ring l' PL).2 i ((aR.1 hi).1)
 ·have e:(s.ring.map (fun l=>({l with ids:=l.ids.filter (· !=id)}:Ln))).map (·.ten)=s.ring.map (·.ten):=by rw[aG];rfl
  exact((List.filter_sublist).map _).nodup (e▸h.fP)
 ·rw[vo];exact h.once.filter _
theorem IV(id:Int):(s.left id).waits id=false:=by
 cases hw:(s.left id).waits id with
 |false=>rfl
 |true=>rw[eD]at hw;unfold left at hw;dsimp only at hw;rw[vo,aR]at hw;simp at hw
end St
end Mc
namespace Mc
open bJ
namespace St
variable{s:St}
theorem eJ{α:Type}{p:α->Bool}{l:List α}{i:Nat}(h:l.findIdx? p=some i): ∃x,l[i]?=some x∧p x=true:=by obtain⟨hi,hp,_⟩:=List.findIdx?_eq_some_iff_getElem.1 h;exact⟨l[i],a7 hi,hp⟩
theorem eH{α:Type}{l:List α}{i:Nat}{x:α}(h:l[i]?=some x):(l.eraseIdx i).length+1=l.length:=by obtain⟨hi,_⟩:=cK.1 h;rw[List.length_eraseIdx,if_pos hi];omega
structure eB(s s':St)(id:Int):Prop where
 inv:Inv s->Inv s'
 ks:s'.ks=s.ks
 reqs:s'.reqs=s.reqs
 ring:s'.ring=s.ring
 wait:s'.wait=s.wait
 cfg:s'.c=s.c
 now:s'.now=s.now
 sub:s'.af.Sublist s.af
theorem eB.refl(s:St)(id:Int):eB s s id:=⟨id',rfl,rfl,rfl,rfl,rfl,rfl,List.Sublist.refl _⟩ where id':=fun h=>h
theorem eB.trans{s s' wy:St}{id:Int}(h:eB s s' id)(h':eB s' wy id):eB s wy id:=
 ⟨fun hi=>h'.inv (h.inv hi),h'.ks.trans h.ks,h'.reqs.trans h.reqs,h'.ring.trans h.ring,h'.wait.trans h.wait,h'.cfg.trans h.cfg,h'.now.trans h.now,h'.sub.trans h.sub⟩
theorem FZ(s:St)(id:Int)(c:Int)(t:Bs)(i:Nat):eB s ((s.say c t).aS i) id:=by obtain⟨e1,e2,e3,e4,e5,e6,e7⟩:=cG (s:=s.say c t) i;exact⟨fun h=>br (bM h _ _) _,e1,e4,e3,e5,e6,e7,by rw[e2];exact List.eraseIdx_sublist ..⟩
theorem Kg(s:St)(id:Int)(i:Nat):eB s (s.aS i) id:=by obtain⟨e1,e2,e3,e4,e5,e6,e7⟩:=cG (s:=s) i;exact⟨fun h=>br h _,e1,e4,e3,e5,e6,e7,by rw[e2];exact List.eraseIdx_sublist ..⟩
theorem iE: ∀(f:Nat) (s:St) (id:Int),eB s (stops f s id) id
 |0,s,id=>eB.refl s id
 |f+1,s,id=>by
  unfold stops;split
  ·exact eB.refl s id
  ·split
   ·exact eB.refl s id
   ·exact(FZ s id _ _ _).trans (iE f _ id)
theorem zv: ∀(f:Nat) (s:St) (id:Int),s.af.length<=f-> ∀a∈(stops f s id).af,a.id≠id
 |0,s,id,h=>by unfold stops;have:s.af= []:=List.eq_nil_of_length_eq_zero (by omega);rw[this];intro a ha;cases ha
 |f+1,s,id,h=>by
  unfold stops;split
  ·rename_i hn;intro a ha e;have:=List.findIdx?_eq_none_iff.1 hn a ha;simp[e]at this
  ·rename_i i hi;obtain⟨x,hx,hp⟩:=eJ hi;rw[hx];refine zv f _ id ?_;rw[(cG (s:=s.say _ _) i).2.1];have:=eH hx;show((s.af.eraseIdx i).length)<=f;omega
theorem Hu{s:St}{id:Int}(h: ∀a∈s.af,a.id≠id):s.count id=0:=by unfold count;rw[List.countP_eq_zero];intro a ha;simpa using h a ha
theorem qm{l:List Rq}{i id:Int}{t:Bs}(h:(i,t)∈l.map fun r=>(r.id,r.ten))(cC:i≠id):(i,t)∈(dropFirst (·.id==id) l).map fun r=>(r.id,r.ten):=by obtain⟨r,hr,e⟩:=aA.1 h;exact aA.2 ⟨r,Ax hr (by have:=(Prod.mk.inj e).1;simp[this,cC]),e⟩
theorem O3(h:Inv s)(id:Int)(ha: ∀a∈s.af,a.id≠id)(hw:s.waits id=false):Inv {s with reqs:=dropFirst (·.id==id) s.reqs}:=by
 have hn:id∉s.ring.flatMap (·.ids):=fun e=>by rw[eD.2 e]at hw;cases hw
 refine⟨?_,fun a h1=> ?_,fun l hl=>⟨(h.ring l hl).1,fun i hi=> ?_⟩,h.fP,h.once,h.cn,h.wt⟩
 ·exact(((gp _ _).map _).map _).nodup h.rid
 ·obtain⟨x,hx,e⟩:=aA.1 (h.bS a h1);exact aA.2 ⟨x,qm hx (by rw[e];exact ha a h1),e⟩
 ·refine qm ((h.ring l hl).2 i hi) (fun e=>hn ?_);subst e;exact List.mem_flatMap.2 ⟨l,hl,hi⟩
theorem ji(h:Inv s)(id:Int):Inv (s.shut id):=by have h1:=iE s.af.length s id;have h2:=zv s.af.length s id (ae _);exact O3 (tW (h1.inv h) id) id h2 (IV id)
theorem iq(h:Inv s)(id:Int)(f:Rq->Rq)(hf: ∀r,(f r).id=r.id∧(f r).ten=r.ten):Inv (s.bu id f):=by have e:(s.bu id f).ks=s.ks:=cr _ f _ (fun r=>by rw[(hf r).1,(hf r).2]) s.reqs;exact⟨e▸h.rid,e▸h.bS,by have:=h.ring;rw[<-e]at this;exact this,h.fP,h.once,h.cn,h.wt⟩
theorem nS(id:Int)(f:Rq->Rq)(hf: ∀r,(f r).id=r.id∧(f r).ten=r.ten):(s.bu id f).ks=s.ks:=cr _ f _ (fun r=>by rw[(hf r).1,(hf r).2]) s.reqs
theorem eC(h:Inv s)(id:Int)(counts:Bool):Inv (s.again id counts):=by
 unfold again;split
 ·exact h
 ·rename_i hw;have hw':s.waits id=false:=by
   cases e:s.waits id with
   |false=>rfl
   |true=>rw[e]at hw;simp at hw
  split
  ·exact h
  ·rename_i r hr;have hk:=lM (oY hr).2.2;split
   ·exact ji (bM h _ _) _
   ·split
    ·refine lu (iq h id (fun r=>{r with left:=r.left-1}) (fun _=>⟨rfl,rfl⟩)) ?_ hw' _;rw[nS id (fun r=>{r with left:=r.left-1}) (fun _=>⟨rfl,rfl⟩)];exact hk
    ·exact lu h hk hw' _
theorem gN{α β:Type}(f:α->β): ∀(l:List α) (k:Nat),(l.eraseIdx k).map f=(l.map f).eraseIdx k
 | [],_=>rfl
 |_::_,0=>rfl
 |x::l,k+1=>by simp only[List.eraseIdx_cons_succ,List.map_cons,gN f l k]
theorem sy{r:List Ln}{k:Nat}{l:Ln}(h:r[k]?=some l):(r.flatMap (·.ids)).Perm (l.ids++(r.eraseIdx k).flatMap (·.ids)):=by
 induction r generalizing k with
 |nil=>simp at h
 |cons x r ih=>
  match k with
  |0=>simp at h;subst h;simp
  |k+1=>simp only[List.eraseIdx_cons_succ,List.flatMap_cons];have:=ih (by simpa using h);refine(this.append_left x.ids).trans ?_;rw[<-List.append_assoc,<-List.append_assoc];exact(List.perm_append_comm).append_right _
theorem lF(h:Inv s)(c:Int)(ws:List Int)(mi:ws.Sublist s.wait)(k:Nat):Inv (s.give c ws k):=by
 unfold give;split
 ·exact h
 ·rename_i l hl;split
  ·exact h
  ·rename_i id hid;split
   ·exact h
   ·rename_i r hr;have KC:l∈s.ring:=dn hl;obtain⟨cC,kJ⟩:=h.ring l KC;have e:(aK (·.id==id) (fun r=>({r with n:=r.n+1}:Rq)) s.reqs).map (fun r=>(r.id,r.ten))=s.ks:=cr _ (fun r=>({r with n:=r.n+1}:Rq)) (fun r=>(r.id,r.ten)) (fun _=>rfl) s.reqs;have fw:=sy hl;have jJ:=fw.nodup_iff.1 h.once;rw[List.nodup_append]at jJ;have KH: ∀x∈rest l,x.ten=l.ten∧x.ids≠ []∧ ∀i∈x.ids,i∈l.ids:=by
     intro x hx;unfold rest at hx;split at hx
     ·rename_i a b t hh;obtain rfl:=cY.1 hx;exact⟨rfl,by simp,fun i hi=>by rw[hh];exact bt _ hi⟩
     ·cases hx
    have N0:(s.ring.eraseIdx k).map (·.ten)=(s.ring.map (·.ten)).eraseIdx k:=gN _ _ _;apply bM;refine⟨?_,fun a ha=> ?_,fun x hx=> ?_, ?_, ?_,h.cn,mi.nodup h.wt⟩
    ·unfold ks;dsimp only;rw[e];exact h.rid
    ·unfold ks;dsimp only;rw[e];rcases List.mem_append.1 ha with ha|ha
     ·exact h.bS a ha
     ·obtain rfl:=cY.1 ha;exact lM (oY hr).2.2
    ·unfold ks;dsimp only;rw[e];rcases List.mem_append.1 hx with hx|hx
     ·exact h.ring x (List.mem_of_mem_eraseIdx hx)
     ·obtain⟨e1,e2,e3⟩:=KH x hx;exact⟨e2,fun i hi=>by rw[e1];exact kJ i (e3 i hi)⟩
    ·show((s.ring.eraseIdx k++rest l).map (·.ten)).Nodup;rw[aH,List.nodup_append];have Iq:l.ten∉(s.ring.eraseIdx k).map (·.ten):=by
      rw[N0];intro hm;obtain⟨j,hj,hje⟩:=List.mem_eraseIdx_iff_getElem.1 hm;obtain⟨nC,hke⟩:=cK.1 hl;have:=(List.pairwise_iff_getElem.1 h.fP);have PK:k<(s.ring.map (·.ten)).length:=by simpa using nC
      have hkv:(s.ring.map (·.ten))[k]=l.ten:=by simp[hke]
      rcases Nat.lt_or_gt_of_ne hje.1 with ay|ay
      ·exact this j k hj PK ay (by rw[hje.2,hkv])
      ·exact this k j PK hj ay (by rw[hje.2,hkv])
     refine⟨N0▸((List.eraseIdx_sublist ..).nodup h.fP), ?_,fun a ha b hb eq=> ?_⟩
     ·unfold rest;split<;>simp
     ·obtain⟨x,hx,rfl⟩:=aA.1 hb;rw[(KH x hx).1]at eq;exact Iq (eq▸ha)
    ·show((s.ring.eraseIdx k++rest l).flatMap (·.ids)).Nodup;rw[List.flatMap_append,List.nodup_append];have kx:((rest l).flatMap (·.ids)).Sublist l.ids:=by
      unfold rest;split
      ·rename_i a b t hh;simp[hh]
      ·exact List.nil_sublist _
     refine⟨jJ.2.1,kx.nodup jJ.1,fun a ha b hb eq=> ?_⟩;exact jJ.2.2 b (kx.subset hb) a ha eq.symm
theorem zt: ∀(f:Nat) {s:St},Inv s->Inv (cS f s)
 |0,_,h=>h
 |f+1,s,h=>by
  unfold cS;split
  ·exact h
  ·rename_i c ws hw;split
   ·exact h
   ·exact zt f (lF h c ws (by rw[hw];exact List.sublist_cons_self ..) _)
theorem q9(h:Inv s):Inv s.serve:=zt _ h
theorem jL: ∀(f:Nat) {s:St},Inv s->Inv (cV f s)
 |0,_,h=>h
 |f+1,s,h=>by
  unfold cV;split
  ·exact h
  ·split
   ·exact h
   ·exact jL f (eC (br (bM h _ _) _) _ _)
theorem oG(h:Inv s)(a:At):Inv (s.bA a):=by
 unfold bA;split
 ·exact h
 ·rename_i r hr;split
  ·rename_i hc;have hw:s.waits a.id=false:=by
    cases e:s.waits a.id with
    |false=>rfl
    |true=>rw[e]at hc;simp at hc
   refine lu (iq h a.id (fun r=>{r with bn:=true}) (fun _=>⟨rfl,rfl⟩)) ?_ hw _;rw[nS a.id (fun r=>{r with bn:=true}) (fun _=>⟨rfl,rfl⟩)];exact lM (oY hr).2.2
  ·exact h
theorem yv(f:St->At->St)(hf: ∀s a,Inv s->Inv (f s a)): ∀(l:List At) {s:St},Inv s->Inv (l.foldl f s)
 | [],_,h=>h
 |a::l,s,h=>yv f hf l (hf s a h)
theorem jH(h:Inv s):Inv s.eE:=yv _ (fun _ a h=>oG h a) _ h
theorem kU(h:Inv s)(n:Int):Inv {s with now:=n}:=⟨h.rid,h.bS,h.ring,h.fP,h.once,h.cn,h.wt⟩
theorem RB(h:Inv s):Inv s.tick:=q9 (jH (jL _ (kU h _)))
theorem eK: ∀(f:Nat) (s:St) (i:Nat) (id c:Int),eB s (bH f s i id c) id
 |0,s,_,id,_=>eB.refl s id
 |f+1,s,i,id,c=>by
  unfold bH;split
  ·exact eB.refl s id
  ·split
   ·exact(Kg s id i).trans (eK f _ i id c)
   ·exact eK f _ _ id c
theorem dW: ∀(f:Nat) {s:St} (c:Int),Inv s->Inv (aQ f s c)
 |0,_,_,h=>h
 |f+1,s,c,h=>by
  unfold aQ;split
  ·exact h
  ·exact dW f c (ji ((eK _ _ _ _ _).inv h) _)
theorem fY: ∀(f:Nat) {s:St} (c:Int),Inv s->Inv (aP f s c)
 |0,_,_,h=>h
 |f+1,s,c,h=>by
  unfold aP;split
  ·exact h
  ·split
   ·exact h
   ·exact fY f c (eC (br h _) _ _)
theorem Lu(h:Inv s)(c:Int):Inv (s.close c):=by refine q9 (fY _ _ (dW _ _ ?_));have h1:=iY h c;exact⟨h1.rid,h1.bS,h1.ring,h1.fP,h1.once,(List.filter_sublist.map _).nodup h1.cn,h1.wt⟩
theorem JE(h:Inv s)(c:Int)(m:Mg):Inv (s.bU c m):=by
 unfold bU;split
 ·exact bM h _ _
 ·split
  ·exact bM h _ _
  ·rename_i h1 h2;have NY:m.id∉s.ks.map (·.1):=fun hk=>by
    obtain⟨r,hr,_⟩:=cz hk;rw[hr]at h1;simp at h1
   have hw:s.waits m.id=false:=by
    cases e:s.waits m.id with
    |false=>rfl
    |true=>rw[eD]at e;obtain⟨l,hl,hi⟩:=List.mem_flatMap.1 e;exact absurd (lM ((h.ring l hl).2 _ hi)) NY
   have kJ:({s with reqs:=s.reqs++ [⟨m.id,c,m.ten,m.txt,0,s.c.re,false⟩]}:St).ks=s.ks++ [(m.id,m.ten)]:=by unfold ks;rw[aH];rfl
   have hi:Inv ({s with reqs:=s.reqs++ [⟨m.id,c,m.ten,m.txt,0,s.c.re,false⟩]}:St):=by
    refine⟨?_,fun a ha=> ?_,fun l hl=>⟨(h.ring l hl).1,fun i hi=> ?_⟩,h.fP,h.once,h.cn,h.wt⟩
    ·rw[kJ,aH,List.nodup_append];refine⟨h.rid,by simp,fun a ha b hb e=>NY ?_⟩;simp at hb;subst hb;exact e▸ha
    ·rw[kJ,aH];exact List.mem_append_left _ (h.bS a ha)
    ·rw[kJ];exact List.mem_append_left _ ((h.ring l hl).2 i hi)
   refine lu (bM hi _ _) ?_ hw _;rw[Ri,kJ,aH];exact List.mem_append_right _ (by simp)
theorem kd(h:Inv s)(c:Int)(m:Mg):Inv (s.message c m):=by
 unfold message;split
 ·exact JE h c m
 split
 ·split
  ·exact bM h _ _
  ·split
   ·exact ji (bM h _ _) _
   ·exact bM h _ _
 split
 ·split
  ·exact h
  ·rename_i hw;have h1:=lA h c;dsimp only;split
   ·exact h1
   ·refine⟨h1.rid,h1.bS,h1.ring,h1.fP,h1.once,h1.cn, ?_⟩;have e:(s.conn c).wait=s.wait:=by unfold conn;split<;>rfl
    show((s.conn c).wait++ [c]).Nodup;rw[e,List.nodup_append];refine⟨h.wt,by simp,fun a ha b hb eq=>hw ?_⟩;simp at hb;subst hb;rw[List.any_eq_true];exact⟨a,ha,by simpa using eq⟩
 split
 ·refine tB h _ (fun a ha=> ?_);obtain⟨x,hx,rfl⟩:=aA.1 ha;split
  ·exact h.bS x hx
  ·exact h.bS x hx
 split
 ·split
  ·exact h
  ·split
   ·exact h
   ·exact ji (br (bM h _ _) _) _
 split
 ·split
  ·exact h
  ·exact eC (br h _) _ _
 split
 ·exact J6 (iY (k5 (lA h c) (fun x=>{x with drains:=true}) (fun _=>rfl) _) c) c
 ·exact h
