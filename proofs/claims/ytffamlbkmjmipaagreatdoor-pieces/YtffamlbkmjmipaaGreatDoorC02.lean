import Derived.Test.YtffamlbkmjmipaaGreatDoorC01
set_option maxHeartbeats 8000000
set_option maxRecDepth 100000
namespace Go.Proofs.YtffamlbkmjmipaaGreatDoor
namespace bA
open Go.RowKit
structure Mg where
 kind:List UInt8
 id:Int
 bB:Int
 ten:List UInt8
 txt:List UInt8
def Mg.cs(m:Mg):Array Value:= #[.string ⟨m.kind.toArray⟩, .int .i64 m.id, .int .i64 m.bB, .string ⟨m.ten.toArray⟩, .string ⟨m.txt.toArray⟩]
def dI:List UInt8:= [112,117,108,108]
def dH:List UInt8:= [98,101,97,116]
def cR:List UInt8:= [100,114,97,105,110]
def gF:List UInt8:= [99,97,110]
def kFail:List UInt8:= [102,97,105,108]
def di:List UInt8:= [100,111,110,101]
def fQ:List UInt8:= [115,117,98]
end bA
namespace Mc
open bA
abbrev Bs:=List UInt8
structure Cn where
 n:Int
 rest:Bs
 drains:Bool
 gone:Bool
 deriving DecidableEq
structure ic where
 le:Int
 re:Int
 ca:Int
 bo:Int
 he:Int
 deriving DecidableEq
structure Rq where
 id:Int
 conn:Int
 ten:Bs
 txt:Bs
 n:Int
 left:Int
 hedged:Bool
 deriving DecidableEq
structure At where
 id:Int
 n:Int
 conn:Int
 eJ:Int
 cS:Int
 deriving DecidableEq
structure Ln where
 ten:Bs
 ids:List Int
 deriving DecidableEq
structure St where
 c:ic
 now:Int:=0
 reqs:List Rq:= []
 ag:List At:= []
 ring:List Ln:= []
 wait:List Int:= []
 ak:List Cn:= []
 out:List (Int×Bs):= []
 begun:Nat:=0
 deriving DecidableEq
def ld:Nat->Nat->Bs
 |0,_=> []
 |f+1,n=>if n<10 then [UInt8.ofNat (48+n)]else ld f (n/10)++ [UInt8.ofNat (48+n %10)]
def a7(x:Int):Bs:=ld 20 x.toNat
def aA{α:Type}(p:α->Bool)(f:α->α):List α->List α
 | []=> []
 |x::l=>if p x then f x::l else x::aA p f l
def dropFirst{α:Type}(p:α->Bool):List α->List α
 | []=> []
 |x::l=>if p x then l else x::dropFirst p l
namespace St
def say(s:St)(c:Int)(t:Bs):St:={s with out:=s.out++ [(c,t)]}
def told(s:St):St:={s with out:= []}
def conn(s:St)(c:Int):St:=if s.ak.any (·.n==c)then s else{s with ak:=s.ak++ [⟨c, [],false,false⟩]}
def drains(s:St)(c:Int):Bool:=match s.ak.find? (·.n==c)with|some x=>x.drains|none=>false
def req(s:St)(id:Int):Option Rq:=s.reqs.find? (·.id==id)
def ten(s:St)(id:Int):Bs:=match s.req id with|some r=>r.ten|none=> []
def held(s:St)(c:Int):Nat:=s.ag.countP (·.conn==c)
def count(s:St)(id:Int):Nat:=s.ag.countP (·.id==id)
def waits(s:St)(id:Int):Bool:=s.ring.any (·.ids.any (· ==id))
def runs(s:St)(t:Bs):Nat:=s.ag.countP (fun a=>s.ten a.id==t)
def dR(s:St)(c:Int):St:=
 if s.ak.any (fun x=>x.n==c &&x.drains && !x.gone) &&s.held c==0 then
  {s with ak:=aA (fun x=>x.n==c) (fun x=>{x with gone:=true}) s.ak}.say c [98,121,101]
 else s
def aU(s:St)(i:Nat):St:=
 match s.ag[i]? with
 |some a=>{s with ag:=s.ag.eraseIdx i}.dR a.conn
 |none=>s
def idle(s:St)(c:Int):St:={s with wait:=s.wait.filter (· !=c)}
def aT(s:St)(id:Int)(first:Bool):St:=
 if s.ring.any (·.ten==s.ten id)then
  {s with ring:=aA (·.ten==s.ten id) (fun l=>{l with ids:=if first then id::l.ids else l.ids++ [id]}) s.ring}
 else{s with ring:=s.ring++ [⟨s.ten id, [id]⟩]}
def left(s:St)(id:Int):St:=
 {s with ring:=(s.ring.map (fun l=>({l with ids:=l.ids.filter (· !=id)}:Ln))).filter (fun l=> !l.ids.isEmpty)}
def aM(id n:Int):Bs:= [115,116,111,112,32]++a7 id++ [32]++a7 n
def stops:Nat->St->Int->St
 |0,s,_=>s
 |f+1,s,id=>
  match s.ag.findIdx? (·.id==id)with
  |none=>s
  |some i=>
   match s.ag[i]? with
   |none=>s
   |some a=>stops f ((s.say a.conn (aM id a.n)).aU i) id
def shut(s:St)(id:Int):St:=
 let s:=(stops s.ag.length s id).left id
 {s with reqs:=dropFirst (·.id==id) s.reqs}
def bg(s:St)(id:Int)(f:Rq->Rq):St:={s with reqs:=aA (·.id==id) f s.reqs}
def again(s:St)(id:Int)(counts:Bool):St:=
 if s.waits id||0<s.count id then s else
 match s.req id with
 |none=>s
 |some r=>
  if counts &&r.left==0 then(s.say r.conn ([101,114,114,32]++a7 id)).shut id
  else(if counts then s.bg id (fun r=>{r with left:=r.left-1})else s).aT id true
def runText(r:Rq)(n:Int):Bs:= [114,117,110,32]++a7 r.id++ [32]++a7 n++ [32]++r.ten++ [32]++r.txt
def rest(l:Ln):List Ln:=match l.ids with|_::i::r=> [⟨l.ten,i::r⟩]|_=> []
def give(s:St)(c:Int)(ws:List Int)(k:Nat):St:=
 match s.ring[k]? with
 |none=>s
 |some l=>
  match l.ids.head? with
  |none=>s
  |some id=>
   match s.req id with
   |none=>s
   |some r=>({s with wait:=ws,ring:=s.ring.eraseIdx k++rest l,reqs:=aA (·.id==id) (fun r=>{r with n:=r.n+1}) s.reqs,ag:=s.ag++ [⟨id,r.n+1,c,s.now,s.now+s.c.le⟩],begun:=s.begun+1}:St).say c (runText r (r.n+1))
def bK:Nat->St->St
 |0,s=>s
 |f+1,s=>
  match s.wait with
  | []=>s
  |c::ws=>
   match s.ring.findIdx? (fun l=>(s.runs l.ten:Int)<s.c.ca)with
   |none=>s
   |some k=>bK f (s.give c ws k)
def serve(s:St):St:=bK s.wait.length s
def iw(now:Int):List At->Nat->Option (Nat×Int)->Option (Nat×Int)
 | [],_,b=>b
 |a::l,i,b=>iw now l (i+1) (if a.cS<=now then(match b with|none=>some (i,a.cS)|some (j,t)=>if a.cS<t then some (i,a.cS)else some (j,t))else b)
def due(s:St):Option Nat:=(iw s.now s.ag 0 none).map (·.1)
def bV:Nat->St->St
 |0,s=>s
 |f+1,s=>
  match s.due with
  |none=>s
  |some i=>
   match s.ag[i]? with
   |none=>s
   |some a=>bV f (((s.say a.conn (aM a.id a.n)).aU i).again a.id true)
def bG(s:St)(a:At):St:=
 match s.req a.id with
 |none=>s
 |some r=>
  if 0<s.c.he &&s.c.he<=s.now-a.eJ && !r.hedged && !s.waits a.id &&s.count a.id==1 then
   (s.bg a.id (fun r=>{r with hedged:=true})).aT a.id false
  else s
def dp(s:St):St:=s.ag.foldl bG s
def tick(s:St):St:=
 let s:={s with now:=s.now+1}
 (bV s.ag.length s).dp.serve
def least(s:St)(c:Int):Option Int:=
 s.reqs.foldl (fun b r=>if r.conn==c &&(match b with|none=>true|some i=>decide (r.id<i))then some r.id else b) none
def bH:Nat->St->Nat->Int->Int->St
 |0,s,_,_,_=>s
 |f+1,s,i,id,c=>
  match s.ag[i]? with
  |none=>s
  |some a=>if a.id==id &&a.conn==c then bH f (s.aU i) i id c else bH f s (i+1) id c
def aO:Nat->St->Int->St
 |0,s,_=>s
 |f+1,s,c=>
  match s.least c with
  |none=>s
  |some id=>aO f ((bH s.ag.length s 0 id c).shut id) c
def aN:Nat->St->Int->St
 |0,s,_=>s
 |f+1,s,c=>
  match s.ag.findIdx? (·.conn==c)with
  |none=>s
  |some i=>
   match s.ag[i]? with
   |none=>s
   |some a=>aN f ((s.aU i).again a.id false) c
def close(s:St)(c:Int):St:=
 let s:=s.idle c
 let s:={s with ak:=s.ak.filter (·.n !=c)}
 let s:=aO s.reqs.length s c
 (aN s.ag.length s c).serve
def queued(s:St):Nat:=(s.ring.map (·.ids.length)).sum
def bT(s:St)(c:Int)(m:Mg):St:=
 if(s.req m.id).isSome then s.say c ([114,101,106,32]++a7 m.id++ [32,100,117,112])
 else if s.ring.any (fun l=>l.ten==m.ten &&decide (s.c.bo<=(l.ids.length:Int)))then s.say c ([114,101,106,32]++a7 m.id++ [32,102,117,108,108])
 else(({s with reqs:=s.reqs++ [⟨m.id,c,m.ten,m.txt,0,s.c.re,false⟩]}:St).say c ([97,99,99,32]++a7 m.id)).aT m.id false
def yX(s:St)(id n:Int):Option Nat:=s.ag.findIdx? (fun a=>a.id==id &&a.n==n)
def mine(s:St)(c id n:Int):Option Nat:=
 match s.yX id n with
 |none=>none
 |some i=>match s.ag[i]? with|none=>none|some a=>if a.conn==c then some i else none
def message(s:St)(c:Int)(m:Mg):St:=
 if m.kind=fQ then s.bT c m
 else if m.kind=gF then
  match s.req m.id with
  |none=>s.say c ([110,111,110,101,32]++a7 m.id)
  |some r=>if r.conn==c then(s.say c ([103,111,110,101,32]++a7 m.id)).shut m.id else s.say c ([110,111,110,101,32]++a7 m.id)
 else if m.kind=dI then
  if s.wait.any (· ==c)then s
  else
   let s:=s.conn c
   if s.drains c then s else{s with wait:=s.wait++ [c]}
 else if m.kind=dH then
  {s with ag:=s.ag.map (fun a=>if a.conn==c then{a with cS:=s.now+s.c.le}else a)}
 else if m.kind=di then
  match s.mine c m.id m.bB with
  |none=>s
  |some i=>
   match s.req m.id with
   |none=>s
   |some r=>((s.say r.conn ([118,97,108,32]++a7 m.id++ [32]++m.txt)).aU i).shut m.id
 else if m.kind=kFail then
  match s.mine c m.id m.bB with
  |none=>s
  |some i=>(s.aU i).again m.id true
 else if m.kind=cR then
  let s:=s.conn c
  let s:={s with ak:=aA (fun x=>x.n==c) (fun x=>{x with drains:=true}) s.ak}
  (s.idle c).dR c
 else s
end St
end Mc
namespace Mc
open bA
section lists
variable{α β:Type}
theorem bp(p:α->Bool)(f:α->α)(g:α->β)(hg: ∀x,g (f x)=g x)(l:List α):(aA p f l).map g=l.map g:=by
 induction l with
 |nil=>rfl
 |cons x l ih=>unfold aA;split<;>simp[hg,ih]
theorem bR{p:α->Bool}{f:α->α}{l:List α}{x:α}(h:x∈aA p f l):x∈l∨ ∃y∈l,p y=true∧x=f y:=by
 induction l with
 |nil=>cases h
 |cons y l ih=>
  unfold aA at h;split at h
  ·rename_i hp;rcases List.mem_cons.1 h with h|h
   ·exact .inr ⟨y,cB ..,hp,h⟩
   ·exact .inl (aY _ h)
  ·rcases List.mem_cons.1 h with h|h
   ·exact .inl (h▸cB ..)
   ·rcases ih h with h|⟨z,hz,h⟩
    ·exact .inl (aY _ h)
    ·exact .inr ⟨z,aY _ hz,h⟩
theorem cU(p:α->Bool)(f:α->α)(l:List α):(aA p f l).length=l.length:=by have:=congrArg List.length (bp p f (fun _=>()) (fun _=>rfl) l);simpa using this
theorem dW(p:α->Bool)(l:List α):(dropFirst p l).Sublist l:=by
 induction l with
 |nil=>exact List.Sublist.refl _
 |cons x l ih=>
  unfold dropFirst;split
  ·exact List.sublist_cons_self ..
  ·exact ih.cons_cons _
theorem vw{p:α->Bool}{l:List α}{x:α}(h:x∈l)(hp:p x=false):x∈dropFirst p l:=by
 induction l with
 |nil=>cases h
 |cons y l ih=>
  unfold dropFirst;split
  ·rename_i hy;rcases List.mem_cons.1 h with h|h
   ·subst h;rw[hp]at hy;cases hy
   ·exact h
  ·rcases List.mem_cons.1 h with h|h
   ·exact h▸cB ..
   ·exact aY _ (ih h)
end lists
def St.ks(s:St):List (Int×Bs):=s.reqs.map fun r=>(r.id,r.ten)
structure Inv(s:St):Prop where
 rid:(s.ks.map (·.1)).Nodup
 bB: ∀a∈s.ag,a.id∈s.ks.map (·.1)
 ring: ∀l∈s.ring,l.ids≠ []∧ ∀i∈l.ids,(i,l.ten)∈s.ks
 dV:(s.ring.map (·.ten)).Nodup
 once:(s.ring.flatMap (·.ids)).Nodup
 cn:(s.ak.map (·.n)).Nodup
 wt:s.wait.Nodup
namespace St
theorem kE{s:St}{i:Int}{t:Bs}(h:(i,t)∈s.ks):i∈s.ks.map (·.1):=ax.2 ⟨_,h,rfl⟩
theorem cf{s:St}{i:Int}(h:i∈s.ks.map (·.1)): ∃r,s.req i=some r∧r∈s.reqs∧r.id=i:=by unfold ks at h;rw[az]at h;obtain⟨r,hr,e⟩:=ax.1 h;have:(s.reqs.find? (·.id==i)).isSome:=List.find?_isSome.2 ⟨r,hr,by simpa using e⟩;obtain⟨r',h'⟩:=Option.isSome_iff_exists.1 this;exact⟨r',h',cO h',by simpa using List.find?_some h'⟩
theorem kJ{s:St}{i:Int}{r:Rq}(h:s.req i=some r):r∈s.reqs∧r.id=i∧(i,r.ten)∈s.ks:=by
 have h1:=cO h;have h2:r.id=i:=by simpa using List.find?_some h
 refine⟨h1,h2,ax.2 ⟨r,h1,by rw[h2]⟩⟩
theorem QS{l:List (Int×Bs)}(h:(l.map (·.1)).Nodup){i:Int}{t t':Bs}(h1:(i,t)∈l)(h2:(i,t')∈l):t=t':=by
 induction l with
 |nil=>cases h1
 |cons x l ih=>
  rw[List.map_cons,List.nodup_cons]at h;rcases List.mem_cons.1 h1 with e1|e1
  ·rcases List.mem_cons.1 h2 with e2|e2
   ·rw[<-e1]at e2;exact(Prod.mk.inj e2).2.symm
   ·exact absurd (ax.2 ⟨_,e2,by rw[<-e1]⟩) h.1
  ·rcases List.mem_cons.1 h2 with e2|e2
   ·exact absurd (ax.2 ⟨_,e1,by rw[<-e2]⟩) h.1
   ·exact ih h.2 e1 e2
theorem uA{s:St}(hi:Inv s){i:Int}{t:Bs}(h:(i,t)∈s.ks):s.ten i=t:=by obtain⟨r,hr,hm,e⟩:=cf (kE h);unfold ten;rw[hr];exact QS hi.rid (ax.2 ⟨r,hm,by rw[e]⟩) h
theorem Ov{s:St}{i:Int}(h:i∈s.ks.map (·.1)):(i,s.ten i)∈s.ks:=by obtain⟨r,hr,hm,e⟩:=cf h;unfold ten;rw[hr];exact ax.2 ⟨r,hm,by rw[e]⟩
theorem cT{s:St}{i:Int}:s.waits i=true↔i∈s.ring.flatMap (·.ids):=by unfold waits;simp[List.any_eq_true,List.mem_flatMap]
variable{s:St}
theorem Q9(c:Int)(t:Bs):(s.say c t).ks=s.ks:=rfl
theorem bM(h:Inv s)(c:Int)(t:Bs):Inv (s.say c t):=⟨h.rid,h.bB,h.ring,h.dV,h.once,h.cn,h.wt⟩
theorem Lt(h:Inv s):Inv s.told:=⟨h.rid,h.bB,h.ring,h.dV,h.once,h.cn,h.wt⟩
theorem jS(h:Inv s)(c:Int):Inv (s.conn c):=by
 unfold conn;split
 ·exact h
 ·rename_i hn;refine⟨h.rid,h.bB,h.ring,h.dV,h.once, ?_,h.wt⟩;show((s.ak++ [(⟨c, [],false,false⟩:Cn)]).map (·.n)).Nodup;rw[aB,List.nodup_append];refine⟨h.cn,by simp,fun a ha b hb=> ?_⟩;simp at hb;subst hb;intro e;apply hn;obtain⟨x,hx,rfl⟩:=ax.1 ha;rw[List.any_eq_true];exact⟨x,hx,by simpa using e⟩
theorem jT(h:Inv s)(f:Cn->Cn)(hf: ∀x,(f x).n=x.n)(p:Cn->Bool):Inv {s with ak:=aA p f s.ak}:=
 ⟨h.rid,h.bB,h.ring,h.dV,h.once,by show((aA p f s.ak).map (·.n)).Nodup;rw[bp p f (·.n) hf];exact h.cn,h.wt⟩
theorem DC(h:Inv s)(c:Int):Inv (s.dR c):=by
 unfold dR;split
 ·exact bM (jT h (fun x=>{x with gone:=true}) (fun _=>rfl) _) _ _
 ·exact h
theorem sP(c:Int):(s.dR c).ks=s.ks∧(s.dR c).ag=s.ag∧(s.dR c).ring=s.ring∧(s.dR c).reqs=s.reqs∧(s.dR c).wait=s.wait∧(s.dR c).c=s.c∧(s.dR c).now=s.now:=by
 unfold dR;split
 ·exact⟨rfl,rfl,rfl,rfl,rfl,rfl,rfl⟩
 ·exact⟨rfl,rfl,rfl,rfl,rfl,rfl,rfl⟩
theorem nZ(h:Inv s)(l:List At)(hl: ∀a∈l,a.id∈s.ks.map (·.1)):Inv {s with ag:=l}:=⟨h.rid,hl,h.ring,h.dV,h.once,h.cn,h.wt⟩
theorem ba(h:Inv s)(i:Nat):Inv (s.aU i):=by
 unfold aU;split
 ·exact DC (nZ h _ (fun a ha=>h.bB a (List.mem_of_mem_eraseIdx ha))) _
 ·exact h
theorem dC(i:Nat):(s.aU i).ks=s.ks∧(s.aU i).ag=s.ag.eraseIdx i∧(s.aU i).ring=s.ring∧(s.aU i).reqs=s.reqs∧(s.aU i).wait=s.wait∧(s.aU i).c=s.c∧(s.aU i).now=s.now:=by
 unfold aU;split
 ·exact sP _
 ·rename_i e;have:s.ag.length<=i:=List.getElem?_eq_none_iff.1 e;exact⟨rfl,(List.eraseIdx_of_length_le this).symm,rfl,rfl,rfl,rfl,rfl⟩
theorem iU(h:Inv s)(c:Int):Inv (s.idle c):=⟨h.rid,h.bB,h.ring,h.dV,h.once,h.cn,h.wt.filter _⟩
theorem uo(h:Inv s)(r:List Ln)(h1: ∀l∈r,l.ids≠ []∧ ∀i∈l.ids,(i,l.ten)∈s.ks)(h2:(r.map (·.ten)).Nodup)(h3:(r.flatMap (·.ids)).Nodup):Inv {s with ring:=r}:=
 ⟨h.rid,h.bB,h1,h2,h3,h.cn,h.wt⟩
theorem tk{id:Int}{first:Bool}{t:Bs}: ∀{r:List Ln},r.any (·.ten==t)=true->(id::r.flatMap (·.ids)).Perm ((aA (·.ten==t) (fun l=>{l with ids:=if first then id::l.ids else l.ids++ [id]}) r).flatMap (·.ids))
 | [],h=>by simp at h
 |l::r,h=>by
  unfold aA;by_cases hl:(l.ten==t)=true
  ·rw[if_pos hl];simp only[List.flatMap_cons];cases first
   ·simp only[Bool.false_eq_true,if_false];rw[List.append_assoc];exact List.perm_middle.symm
   ·simp
  ·rw[if_neg hl];simp only[List.flatMap_cons];have hr:r.any (·.ten==t)=true:=by simpa[hl]using h
   exact(List.perm_middle.symm).trans ((tk hr).append_left l.ids)
theorem iK(h:Inv s){id:Int}(hid:id∈s.ks.map (·.1))(hw:s.waits id=false)(first:Bool):Inv (s.aT id first):=by
 have hn:id∉s.ring.flatMap (·.ids):=fun e=>by rw[cT.2 e]at hw;cases hw
 have hk:=Ov hid;unfold aT;split
 ·rename_i ha;refine uo h _ (fun l hl=> ?_) ?_ ?_
  ·rcases bR hl with hl|⟨l',Qz,ht,rfl⟩
   ·exact h.ring l hl
   ·obtain⟨h1,h2⟩:=h.ring l' Qz;have zT:l'.ten=s.ten id:=by simpa using ht
    refine⟨?_,fun i hi=> ?_⟩
    ·dsimp only;split<;>simp
    ·dsimp only at hi⊢;split at hi
     ·rcases List.mem_cons.1 hi with e|e
      ·rw[e,zT];exact hk
      ·exact h2 i e
     ·rcases List.mem_append.1 hi with e|e
      ·exact h2 i e
      ·rw[cC.1 e,zT];exact hk
  ·rw[bp (·.ten==s.ten id) (fun l:Ln=>{l with ids:=if first then id::l.ids else l.ids++ [id]}) (·.ten) (fun _=>rfl)];exact h.dV
  ·exact(tk (id:=id) (first:=first) ha).nodup_iff.1 (List.nodup_cons.2 ⟨hn,h.once⟩)
 ·rename_i ha;refine uo h _ (fun l hl=> ?_) ?_ ?_
  ·rcases List.mem_append.1 hl with hl|hl
   ·exact h.ring l hl
   ·obtain rfl:=cC.1 hl;refine⟨by simp,fun i hi=> ?_⟩;rw[cC.1 hi];exact hk
  ·rw[aB,List.nodup_append];refine⟨h.dV,by simp,fun a h1 b hb e=>ha ?_⟩;obtain⟨l,hl,rfl⟩:=ax.1 h1;rw[List.any_eq_true];refine⟨l,hl, ?_⟩;simp at hb;subst hb;simpa using e
  ·rw[List.flatMap_append,List.nodup_append];refine⟨h.once,by simp,fun a h1 b hb e=>hn ?_⟩;simp at hb;subst hb;exact e▸h1
theorem fA(id:Int)(first:Bool):(s.aT id first).ks=s.ks∧(s.aT id first).ag=s.ag∧(s.aT id first).reqs=s.reqs∧(s.aT id first).wait=s.wait∧(s.aT id first).ak=s.ak∧(s.aT id first).out=s.out∧(s.aT id first).c=s.c∧(s.aT id first).now=s.now:=by unfold aT;split<;>exact⟨rfl,rfl,rfl,rfl,rfl,rfl,rfl,rfl⟩
theorem qx(r:List Ln)(id:Int):((r.map (fun l=>({l with ids:=l.ids.filter (· !=id)}:Ln))).filter (fun l=> !l.ids.isEmpty)).flatMap (·.ids)=(r.flatMap (·.ids)).filter (· !=id):=by
 induction r with
 |nil=>rfl
 |cons l r ih=>
  rw[List.map_cons,List.filter_cons,List.flatMap_cons,List.filter_append,<-ih];split
  ·rw[List.flatMap_cons]
  ·rename_i h;have:l.ids.filter (· !=id)= []:=by simpa using h
   rw[this];rfl
theorem oP(h:Inv s)(id:Int):Inv (s.left id):=by
 refine uo h _ (fun l hl=> ?_) ?_ ?_
 ·obtain⟨hl,cz⟩:=aG.1 hl;obtain⟨l',Qz,rfl⟩:=ax.1 hl;refine⟨by simpa using cz,fun i hi=> ?_⟩;exact(h.ring l' Qz).2 i ((aG.1 hi).1)
 ·have e:(s.ring.map (fun l=>({l with ids:=l.ids.filter (· !=id)}:Ln))).map (·.ten)=s.ring.map (·.ten):=by rw[az];rfl
  exact((List.filter_sublist).map _).nodup (e▸h.dV)
 ·rw[qx];exact h.once.filter _
theorem CM(id:Int):(s.left id).waits id=false:=by
 cases hw:(s.left id).waits id with
 |false=>rfl
 |true=>rw[cT]at hw;unfold left at hw;dsimp only at hw;rw[qx,aG]at hw;simp at hw
end St
end Mc
namespace Mc
open bA
namespace St
variable{s:St}
theorem eI{α:Type}{p:α->Bool}{l:List α}{i:Nat}(h:l.findIdx? p=some i): ∃x,l[i]?=some x∧p x=true:=by obtain⟨hi,hp,_⟩:=List.findIdx?_eq_some_iff_getElem.1 h;exact⟨l[i],aV hi,hp⟩
theorem iz{α:Type}{l:List α}{i:Nat}{x:α}(h:l[i]?=some x):(l.eraseIdx i).length+1=l.length:=by obtain⟨hi,_⟩:=cH.1 h;rw[List.length_eraseIdx,if_pos hi];omega
structure dw(s s':St)(id:Int):Prop where
 inv:Inv s->Inv s'
 ks:s'.ks=s.ks
 reqs:s'.reqs=s.reqs
 ring:s'.ring=s.ring
 wait:s'.wait=s.wait
 cfg:s'.c=s.c
 now:s'.now=s.now
 sub:s'.ag.Sublist s.ag
theorem dw.refl(s:St)(id:Int):dw s s id:=⟨id',rfl,rfl,rfl,rfl,rfl,rfl,List.Sublist.refl _⟩ where id':=fun h=>h
theorem dw.trans{s s' rz:St}{id:Int}(h:dw s s' id)(h':dw s' rz id):dw s rz id:=
 ⟨fun hi=>h'.inv (h.inv hi),h'.ks.trans h.ks,h'.reqs.trans h.reqs,h'.ring.trans h.ring,h'.wait.trans h.wait,h'.cfg.trans h.cfg,h'.now.trans h.now,h'.sub.trans h.sub⟩
theorem Bf(s:St)(id:Int)(c:Int)(t:Bs)(i:Nat):dw s ((s.say c t).aU i) id:=by obtain⟨e1,e2,e3,e4,e5,e6,e7⟩:=dC (s:=s.say c t) i;exact⟨fun h=>ba (bM h _ _) _,e1,e4,e3,e5,e6,e7,by rw[e2];exact List.eraseIdx_sublist ..⟩
theorem MQ(s:St)(id:Int)(i:Nat):dw s (s.aU i) id:=by obtain⟨e1,e2,e3,e4,e5,e6,e7⟩:=dC (s:=s) i;exact⟨fun h=>ba h _,e1,e4,e3,e5,e6,e7,by rw[e2];exact List.eraseIdx_sublist ..⟩
theorem iI: ∀(f:Nat) (s:St) (id:Int),dw s (stops f s id) id
 |0,s,id=>dw.refl s id
 |f+1,s,id=>by
  unfold stops;split
  ·exact dw.refl s id
  ·split
   ·exact dw.refl s id
   ·exact(Bf s id _ _ _).trans (iI f _ id)
theorem uz: ∀(f:Nat) (s:St) (id:Int),s.ag.length<=f-> ∀a∈(stops f s id).ag,a.id≠id
 |0,s,id,h=>by unfold stops;have:s.ag= []:=List.eq_nil_of_length_eq_zero (by omega);rw[this];intro a ha;cases ha
 |f+1,s,id,h=>by
  unfold stops;split
  ·rename_i hn;intro a ha e;have:=List.findIdx?_eq_none_iff.1 hn a ha;simp[e]at this
  ·rename_i i hi;obtain⟨x,hx,hp⟩:=eI hi;rw[hx];refine uz f _ id ?_;rw[(dC (s:=s.say _ _) i).2.1];have:=iz hx;show((s.ag.eraseIdx i).length)<=f;omega
theorem BX{s:St}{id:Int}(h: ∀a∈s.ag,a.id≠id):s.count id=0:=by unfold count;rw[List.countP_eq_zero];intro a ha;simpa using h a ha
theorem lx{l:List Rq}{i id:Int}{t:Bs}(h:(i,t)∈l.map fun r=>(r.id,r.ten))(cz:i≠id):(i,t)∈(dropFirst (·.id==id) l).map fun r=>(r.id,r.ten):=by obtain⟨r,hr,e⟩:=ax.1 h;exact ax.2 ⟨r,vw hr (by have:=(Prod.mk.inj e).1;simp[this,cz]),e⟩
theorem IY(h:Inv s)(id:Int)(ha: ∀a∈s.ag,a.id≠id)(hw:s.waits id=false):Inv {s with reqs:=dropFirst (·.id==id) s.reqs}:=by
 have hn:id∉s.ring.flatMap (·.ids):=fun e=>by rw[cT.2 e]at hw;cases hw
 refine⟨?_,fun a h1=> ?_,fun l hl=>⟨(h.ring l hl).1,fun i hi=> ?_⟩,h.dV,h.once,h.cn,h.wt⟩
 ·exact(((dW _ _).map _).map _).nodup h.rid
 ·obtain⟨x,hx,e⟩:=ax.1 (h.bB a h1);exact ax.2 ⟨x,lx hx (by rw[e];exact ha a h1),e⟩
 ·refine lx ((h.ring l hl).2 i hi) (fun e=>hn ?_);subst e;exact List.mem_flatMap.2 ⟨l,hl,hi⟩
theorem gU(h:Inv s)(id:Int):Inv (s.shut id):=by have h1:=iI s.ag.length s id;have h2:=uz s.ag.length s id (af _);exact IY (oP (h1.inv h) id) id h2 (CM id)
theorem jb(h:Inv s)(id:Int)(f:Rq->Rq)(hf: ∀r,(f r).id=r.id∧(f r).ten=r.ten):Inv (s.bg id f):=by have e:(s.bg id f).ks=s.ks:=bp _ f _ (fun r=>by rw[(hf r).1,(hf r).2]) s.reqs;exact⟨e▸h.rid,e▸h.bB,by have:=h.ring;rw[<-e]at this;exact this,h.dV,h.once,h.cn,h.wt⟩
theorem qI(id:Int)(f:Rq->Rq)(hf: ∀r,(f r).id=r.id∧(f r).ten=r.ten):(s.bg id f).ks=s.ks:=bp _ f _ (fun r=>by rw[(hf r).1,(hf r).2]) s.reqs
theorem dt(h:Inv s)(id:Int)(counts:Bool):Inv (s.again id counts):=by
 unfold again;split
 ·exact h
 ·rename_i hw;have hw':s.waits id=false:=by
   cases e:s.waits id with
   |false=>rfl
   |true=>rw[e]at hw;simp at hw
  split
  ·exact h
  ·rename_i r hr;have hk:=kE (kJ hr).2.2;split
   ·exact gU (bM h _ _) _
   ·split
    ·refine iK (jb h id (fun r=>{r with left:=r.left-1}) (fun _=>⟨rfl,rfl⟩)) ?_ hw' _;rw[qI id (fun r=>{r with left:=r.left-1}) (fun _=>⟨rfl,rfl⟩)];exact hk
    ·exact iK h hk hw' _
theorem gK{α β:Type}(f:α->β): ∀(l:List α) (k:Nat),(l.eraseIdx k).map f=(l.map f).eraseIdx k
 | [],_=>rfl
 |_::_,0=>rfl
 |x::l,k+1=>by simp only[List.eraseIdx_cons_succ,List.map_cons,gK f l k]
theorem nj{r:List Ln}{k:Nat}{l:Ln}(h:r[k]?=some l):(r.flatMap (·.ids)).Perm (l.ids++(r.eraseIdx k).flatMap (·.ids)):=by
 induction r generalizing k with
 |nil=>simp at h
 |cons x r ih=>
  match k with
  |0=>simp at h;subst h;simp
  |k+1=>simp only[List.eraseIdx_cons_succ,List.flatMap_cons];have:=ih (by simpa using h);refine(this.append_left x.ids).trans ?_;rw[<-List.append_assoc,<-List.append_assoc];exact(List.perm_append_comm).append_right _
theorem jV(h:Inv s)(c:Int)(ws:List Int)(jZ:ws.Sublist s.wait)(k:Nat):Inv (s.give c ws k):=by
 unfold give;split
 ·exact h
 ·rename_i l hl;split
  ·exact h
  ·rename_i id hid;split
   ·exact h
   ·rename_i r hr;have Fw:l∈s.ring:=cK hl;obtain⟨cz,qZ⟩:=h.ring l Fw;have e:(aA (·.id==id) (fun r=>({r with n:=r.n+1}:Rq)) s.reqs).map (fun r=>(r.id,r.ten))=s.ks:=bp _ (fun r=>({r with n:=r.n+1}:Rq)) (fun r=>(r.id,r.ten)) (fun _=>rfl) s.reqs;have dA:=nj hl;have gw:=dA.nodup_iff.1 h.once;rw[List.nodup_append]at gw;have Pm: ∀x∈rest l,x.ten=l.ten∧x.ids≠ []∧ ∀i∈x.ids,i∈l.ids:=by
     intro x hx;unfold rest at hx;split at hx
     ·rename_i a b t hh;obtain rfl:=cC.1 hx;exact⟨rfl,by simp,fun i hi=>by rw[hh];exact aY _ hi⟩
     ·cases hx
    have Cy:(s.ring.eraseIdx k).map (·.ten)=(s.ring.map (·.ten)).eraseIdx k:=gK _ _ _;apply bM;refine⟨?_,fun a ha=> ?_,fun x hx=> ?_, ?_, ?_,h.cn,jZ.nodup h.wt⟩
    ·unfold ks;dsimp only;rw[e];exact h.rid
    ·unfold ks;dsimp only;rw[e];rcases List.mem_append.1 ha with ha|ha
     ·exact h.bB a ha
     ·obtain rfl:=cC.1 ha;exact kE (kJ hr).2.2
    ·unfold ks;dsimp only;rw[e];rcases List.mem_append.1 hx with hx|hx
     ·exact h.ring x (List.mem_of_mem_eraseIdx hx)
     ·obtain⟨e1,e2,e3⟩:=Pm x hx;exact⟨e2,fun i hi=>by rw[e1];exact qZ i (e3 i hi)⟩
    ·show((s.ring.eraseIdx k++rest l).map (·.ten)).Nodup;rw[aB,List.nodup_append];have Cp:l.ten∉(s.ring.eraseIdx k).map (·.ten):=by
      rw[Cy];intro hm;obtain⟨j,hj,Xp⟩:=List.mem_eraseIdx_iff_getElem.1 hm;obtain⟨ny,hke⟩:=cH.1 hl;have:=(List.pairwise_iff_getElem.1 h.dV);have JF:k<(s.ring.map (·.ten)).length:=by simpa using ny
      have Z8:(s.ring.map (·.ten))[k]=l.ten:=by simp[hke]
      rcases Nat.lt_or_gt_of_ne Xp.1 with aQ|aQ
      ·exact this j k hj JF aQ (by rw[Xp.2,Z8])
      ·exact this k j JF hj aQ (by rw[Xp.2,Z8])
     refine⟨Cy▸((List.eraseIdx_sublist ..).nodup h.dV), ?_,fun a ha b hb eq=> ?_⟩
     ·unfold rest;split<;>simp
     ·obtain⟨x,hx,rfl⟩:=ax.1 hb;rw[(Pm x hx).1]at eq;exact Cp (eq▸ha)
    ·show((s.ring.eraseIdx k++rest l).flatMap (·.ids)).Nodup;rw[List.flatMap_append,List.nodup_append];have mC:((rest l).flatMap (·.ids)).Sublist l.ids:=by
      unfold rest;split
      ·rename_i a b t hh;simp[hh]
      ·exact List.nil_sublist _
     refine⟨gw.2.1,mC.nodup gw.1,fun a ha b hb eq=> ?_⟩;exact gw.2.2 b (mC.subset hb) a ha eq.symm
theorem uu: ∀(f:Nat) {s:St},Inv s->Inv (bK f s)
 |0,_,h=>h
 |f+1,s,h=>by
  unfold bK;split
  ·exact h
  ·rename_i c ws hw;split
   ·exact h
   ·exact uu f (jV h c ws (by rw[hw];exact List.sublist_cons_self ..) _)
theorem ml(h:Inv s):Inv s.serve:=uu _ h
theorem gG: ∀(f:Nat) {s:St},Inv s->Inv (bV f s)
 |0,_,h=>h
 |f+1,s,h=>by
  unfold bV;split
  ·exact h
  ·split
   ·exact h
   ·exact gG f (dt (ba (bM h _ _) _) _ _)
theorem nx(h:Inv s)(a:At):Inv (s.bG a):=by
 unfold bG;split
 ·exact h
 ·rename_i r hr;split
  ·rename_i hc;have hw:s.waits a.id=false:=by
    cases e:s.waits a.id with
    |false=>rfl
    |true=>rw[e]at hc;simp at hc
   refine iK (jb h a.id (fun r=>{r with hedged:=true}) (fun _=>⟨rfl,rfl⟩)) ?_ hw _;rw[qI a.id (fun r=>{r with hedged:=true}) (fun _=>⟨rfl,rfl⟩)];exact kE (kJ hr).2.2
  ·exact h
theorem zE(f:St->At->St)(hf: ∀s a,Inv s->Inv (f s a)): ∀(l:List At) {s:St},Inv s->Inv (l.foldl f s)
 | [],_,h=>h
 |a::l,s,h=>zE f hf l (hf s a h)
theorem iQ(h:Inv s):Inv s.dp:=zE _ (fun _ a h=>nx h a) _ h
theorem jz(h:Inv s)(n:Int):Inv {s with now:=n}:=⟨h.rid,h.bB,h.ring,h.dV,h.once,h.cn,h.wt⟩
theorem Lq(h:Inv s):Inv s.tick:=ml (iQ (gG _ (jz h _)))
theorem dK: ∀(f:Nat) (s:St) (i:Nat) (id c:Int),dw s (bH f s i id c) id
 |0,s,_,id,_=>dw.refl s id
 |f+1,s,i,id,c=>by
  unfold bH;split
  ·exact dw.refl s id
  ·split
   ·exact(MQ s id i).trans (dK f _ i id c)
   ·exact dK f _ _ id c
theorem cM: ∀(f:Nat) {s:St} (c:Int),Inv s->Inv (aO f s c)
 |0,_,_,h=>h
 |f+1,s,c,h=>by
  unfold aO;split
  ·exact h
  ·exact cM f c (gU ((dK _ _ _ _ _).inv h) _)
theorem dS: ∀(f:Nat) {s:St} (c:Int),Inv s->Inv (aN f s c)
 |0,_,_,h=>h
 |f+1,s,c,h=>by
  unfold aN;split
  ·exact h
  ·split
   ·exact h
   ·exact dS f c (dt (ba h _) _ _)
theorem EU(h:Inv s)(c:Int):Inv (s.close c):=by refine ml (dS _ _ (cM _ _ ?_));have h1:=iU h c;exact⟨h1.rid,h1.bB,h1.ring,h1.dV,h1.once,(List.filter_sublist.map _).nodup h1.cn,h1.wt⟩
theorem Db(h:Inv s)(c:Int)(m:Mg):Inv (s.bT c m):=by
 unfold bT;split
 ·exact bM h _ _
 ·split
  ·exact bM h _ _
  ·rename_i h1 h2;have Pg:m.id∉s.ks.map (·.1):=fun hk=>by
    obtain⟨r,hr,_⟩:=cf hk;rw[hr]at h1;simp at h1
   have hw:s.waits m.id=false:=by
    cases e:s.waits m.id with
    |false=>rfl
    |true=>rw[cT]at e;obtain⟨l,hl,hi⟩:=List.mem_flatMap.1 e;exact absurd (kE ((h.ring l hl).2 _ hi)) Pg
   have qZ:({s with reqs:=s.reqs++ [⟨m.id,c,m.ten,m.txt,0,s.c.re,false⟩]}:St).ks=s.ks++ [(m.id,m.ten)]:=by unfold ks;rw[aB];rfl
   have hi:Inv ({s with reqs:=s.reqs++ [⟨m.id,c,m.ten,m.txt,0,s.c.re,false⟩]}:St):=by
    refine⟨?_,fun a ha=> ?_,fun l hl=>⟨(h.ring l hl).1,fun i hi=> ?_⟩,h.dV,h.once,h.cn,h.wt⟩
    ·rw[qZ,aB,List.nodup_append];refine⟨h.rid,by simp,fun a ha b hb e=>Pg ?_⟩;simp at hb;subst hb;exact e▸ha
    ·rw[qZ,aB];exact List.mem_append_left _ (h.bB a ha)
    ·rw[qZ];exact List.mem_append_left _ ((h.ring l hl).2 i hi)
   refine iK (bM hi _ _) ?_ hw _;rw[Q9,qZ,aB];exact List.mem_append_right _ (by simp)
theorem jx(h:Inv s)(c:Int)(m:Mg):Inv (s.message c m):=by
 unfold message;split
 ·exact Db h c m
 split
 ·split
  ·exact bM h _ _
  ·split
   ·exact gU (bM h _ _) _
   ·exact bM h _ _
 split
 ·split
  ·exact h
  ·rename_i hw;have h1:=jS h c;dsimp only;split
   ·exact h1
   ·refine⟨h1.rid,h1.bB,h1.ring,h1.dV,h1.once,h1.cn, ?_⟩;have e:(s.conn c).wait=s.wait:=by unfold conn;split<;>rfl
    show((s.conn c).wait++ [c]).Nodup;rw[e,List.nodup_append];refine⟨h.wt,by simp,fun a ha b hb eq=>hw ?_⟩;simp at hb;subst hb;rw[List.any_eq_true];exact⟨a,ha,by simpa using eq⟩
 split
 ·refine nZ h _ (fun a ha=> ?_);obtain⟨x,hx,rfl⟩:=ax.1 ha;split
  ·exact h.bB x hx
  ·exact h.bB x hx
 split
 ·split
  ·exact h
  ·split
   ·exact h
   ·exact gU (ba (bM h _ _) _) _
 split
 ·split
  ·exact h
  ·exact dt (ba h _) _ _
 split
 ·exact DC (iU (jT (jS h c) (fun x=>{x with drains:=true}) (fun _=>rfl) _) c) c
 ·exact h
end St
end Mc
namespace Mc
open bA
structure Ok(s:St):Prop where
 gone: ∀x∈s.ak,x.drains=false->x.gone=false
 dr: ∀x∈s.ak,x.drains=true->(x.gone=true↔s.held x.n=0)∧x.n∉s.wait
 key:(s.ag.map fun a=>(a.id,a.n)).Nodup
 num: ∀a∈s.ag,∀r∈s.reqs,r.id=a.id->a.n<=r.n
 hd: ∀r∈s.reqs,r.hedged=false->s.count r.id<=1∧(0<s.count r.id->s.waits r.id=false)
def Busy(s:St)(P:Int->Prop):Prop:= ∀r∈s.reqs,¬P r.id->s.waits r.id=true∨0<s.count r.id
theorem bC{α κ:Type}{k:α->κ}{l:List α}(hn:(l.map k).Nodup){x y:α}(hx:x∈l)(hy:y∈l)(e:k x=k y):x=y:=by
 have h:=List.pairwise_iff_getElem.1 hn;obtain⟨i,hi,rfl⟩:=List.getElem_of_mem hx;obtain⟨j,hj,rfl⟩:=List.getElem_of_mem hy;rcases Nat.lt_trichotomy i j with h'|h'|h'
 ·exact absurd (by rw[List.getElem_map,List.getElem_map];exact e) (h i j (by simpa using hi) (by simpa using hj) h')
 ·subst h';rfl
 ·exact absurd (by rw[List.getElem_map,List.getElem_map];exact e.symm) (h j i (by simpa using hj) (by simpa using hi) h')
section keyed
variable{α κ:Type} [BEq κ] [LawfulBEq κ](k:α->κ)(c:κ)
theorem bj(f:α->α){l:List α}(hn:(l.map k).Nodup):aA (fun x=>k x==c) f l=l.map (fun x=>if k x==c then f x else x):=by
 induction l with
 |nil=>rfl
 |cons x l ih=>
  rw[List.map_cons,List.nodup_cons]at hn;unfold aA;rw[List.map_cons];by_cases e:(k x==c)=true
  ·rw[if_pos e,if_pos e];congr 1;have: ∀y∈l,(if k y==c then f y else y)=y:=fun y hy=>if_neg (fun e'=>hn.1 (ax.2 ⟨y,hy,by rw[beq_iff_eq]at e e';rw[e,e']⟩));exact((bu this).trans (List.map_id _)).symm
  ·rw[if_neg e,if_neg e,ih hn.2]
theorem gC{l:List α}(hn:(l.map k).Nodup):dropFirst (fun x=>k x==c) l=l.filter (fun x=>k x !=c):=by
 induction l with
 |nil=>rfl
 |cons x l ih=>
  rw[List.map_cons,List.nodup_cons]at hn;unfold dropFirst;by_cases e:(k x==c)=true
  ·rw[if_pos e,List.filter_cons_of_neg (by simpa using e)];refine(List.filter_eq_self.2 fun y hy=> ?_).symm;have:k y≠c:=fun e'=>hn.1 (ax.2 ⟨y,hy,by rw[beq_iff_eq]at e;rw[e,e']⟩);simpa using this
  ·rw[if_neg e,List.filter_cons_of_pos (by simpa using e),ih hn.2]
end keyed
theorem fl{α:Type}(p:α->Bool): ∀{l:List α} {i:Nat} {a:α},l[i]?=some a->(l.eraseIdx i).countP p+(if p a then 1 else 0)=l.countP p
 | [],i,a,h=>by simp at h
 |x::l,0,a,h=>by simp at h;subst h;simp[List.countP_cons]
 |x::l,i+1,a,h=>by
  have h':l[i]?=some a:=by simpa using h
  have:=fl p h';simp only[List.eraseIdx_cons_succ,List.countP_cons];omega
namespace St
variable{s:St}
theorem Ck{i:Nat}{a:At}(h:s.ag[i]?=some a)(c:Int):({s with ag:=s.ag.eraseIdx i}:St).held c+(if a.conn=c then 1 else 0)=s.held c:=by have:=fl (fun x:At=>x.conn==c) h;simpa[held]using this
theorem count_erase{i:Nat}{a:At}(h:s.ag[i]?=some a)(c:Int):({s with ag:=s.ag.eraseIdx i}:St).count c+(if a.id=c then 1 else 0)=s.count c:=by have:=fl (fun x:At=>x.id==c) h;simpa[count]using this
theorem lK(i id:Int)(f:Bool):(s.aT id f).waits i=true↔i=id∨s.waits i=true:=by
 rw[cT,cT];unfold aT;split
 ·rename_i ha;rw[<-(tk (id:=id) (first:=f) ha).mem_iff,List.mem_cons]
 ·simp[List.flatMap_append,or_comm]
theorem kL(i id:Int):(s.left id).waits i=true↔i≠id∧s.waits i=true:=by rw[cT,cT];unfold left;dsimp only;rw[qx,aG];simp[and_comm]
theorem fK{i:Int}:s.waits i=false↔ ¬s.waits i=true:=by simp
theorem iF(c:Int):(s.conn c).ag=s.ag∧(s.conn c).reqs=s.reqs∧(s.conn c).ring=s.ring∧(s.conn c).wait=s.wait∧(s.conn c).out=s.out∧(s.conn c).c=s.c∧(s.conn c).now=s.now∧(s.conn c).begun=s.begun:=by unfold conn;split<;>exact⟨rfl,rfl,rfl,rfl,rfl,rfl,rfl,rfl⟩
theorem AA{c:Int}{x:Cn}(h:x∈(s.conn c).ak):x∈s.ak∨x=⟨c, [],false,false⟩:=by
 unfold conn at h;split at h
 ·exact .inl h
 ·rcases List.mem_append.1 h with h|h
  ·exact .inl h
  ·exact .inr (cC.1 h)
end St
namespace Ok
variable{s:St}
theorem say(h:Ok s)(c:Int)(t:Bs):Ok (s.say c t):=⟨h.gone,h.dr,h.key,h.num,h.hd⟩
theorem told(h:Ok s):Ok s.told:=⟨h.gone,h.dr,h.key,h.num,h.hd⟩
theorem now(h:Ok s)(n:Int):Ok {s with now:=n}:=⟨h.gone,h.dr,h.key,h.num,h.hd⟩
theorem conn(h:Ok s)(c:Int):Ok (s.conn c):=by
 obtain⟨e1,e2,e3,e4,_⟩:=St.iF (s:=s) c;refine⟨fun x hx hd=> ?_,fun x hx hd=> ?_,by rw[e1];exact h.key,by rw[e1,e2];exact h.num, ?_⟩
 ·rcases St.AA hx with hx|rfl
  ·exact h.gone x hx hd
  ·rfl
 ·unfold St.held;rw[e1,e4];rcases St.AA hx with hx|rfl
  ·exact h.dr x hx hd
  ·cases hd
 ·unfold St.count St.waits;rw[e1,e2,e3];exact h.hd
theorem dR(hn:(s.ak.map (·.n)).Nodup)(c:Int)(gone: ∀x∈s.ak,x.drains=false->x.gone=false)(dr: ∀x∈s.ak,x.drains=true->(x.n≠c->(x.gone=true↔s.held x.n=0))∧(x.n=c->x.gone=true->s.held x.n=0)∧x.n∉s.wait)(key:(s.ag.map fun a=>(a.id,a.n)).Nodup)(num: ∀a∈s.ag,∀r∈s.reqs,r.id=a.id->a.n<=r.n)(hd: ∀r∈s.reqs,r.hedged=false->s.count r.id<=1∧(0<s.count r.id->s.waits r.id=false)):Ok (s.dR c):=by
 unfold St.dR;split
 ·rename_i Vn;rw[a8,List.any_eq_true]at Vn;obtain⟨⟨y,hy,JU⟩,h0⟩:=Vn;simp only[a8,beq_iff_eq,Bool.not_eq_true']at JU;have DY:s.held c=0:=by simpa using h0
  refine say (s:={s with ak:=aA (fun x=>x.n==c) (fun x=>{x with gone:=true}) s.ak}) ⟨fun x hx jL=> ?_,fun x hx jL=> ?_,key,num,hd⟩ _ _
  ·dsimp only at hx;rw[bj (fun x:Cn=>x.n) c (fun x=>{x with gone:=true}) hn]at hx;obtain⟨z,hz,rfl⟩:=ax.1 hx;by_cases e:z.n=c
   ·obtain rfl:=bC hn hz hy (e.trans JU.1.1.symm);simp[e,JU.1.2]at jL
   ·simp only[beq_iff_eq,if_neg e]at jL⊢;exact gone z hz jL
  ·dsimp only at hx;rw[bj (fun x:Cn=>x.n) c (fun x=>{x with gone:=true}) hn]at hx;obtain⟨z,hz,rfl⟩:=ax.1 hx;show(_↔s.held _=0)∧_∉s.wait;by_cases e:z.n=c
   ·simp only[beq_iff_eq,if_pos e]at jL⊢;exact⟨by rw[e,DY];simp,(dr z hz jL).2.2⟩
   ·simp only[beq_iff_eq,if_neg e]at jL⊢;exact⟨(dr z hz jL).1 e,(dr z hz jL).2.2⟩
 ·rename_i Vn;refine⟨gone,fun x hx jL=> ?_,key,num,hd⟩;obtain⟨h1,h2,h3⟩:=dr x hx jL;refine⟨?_,h3⟩;by_cases e:x.n=c
  ·refine⟨h2 e,fun h0=> ?_⟩;cases hg:x.gone with
   |true=>rfl
   |false=>exfalso;apply Vn;rw[a8,List.any_eq_true];exact⟨⟨x,hx,by simp[e,jL,hg]⟩,by rw[<-e];simpa using h0⟩
  ·exact h1 e
theorem aU(h:Ok s)(hi:Inv s)(i:Nat):Ok (s.aU i):=by
 unfold St.aU;split
 ·rename_i a ha;refine dR (s:={s with ag:=s.ag.eraseIdx i}) hi.cn a.conn h.gone (fun x hx jL=> ?_) ?_ (fun b hb=>h.num b (List.mem_of_mem_eraseIdx hb)) (fun r hr oK=> ?_)
  ·obtain⟨h1,h2⟩:=h.dr x hx jL;have he:=St.Ck ha x.n;refine⟨fun cz=> ?_,fun e hg=> ?_,h2⟩
   ·rw[if_neg (Ne.symm cz),Nat.add_zero]at he;rw[he];exact h1
   ·have:=h1.1 hg;omega
  ·show((s.ag.eraseIdx i).map fun a=>(a.id,a.n)).Nodup;exact((List.eraseIdx_sublist ..).map _).nodup h.key
  ·obtain⟨h1,h2⟩:=h.hd r hr oK;have he:=St.count_erase ha r.id;refine⟨by omega,fun h0=>h2 (by omega)⟩
 ·exact h
theorem idle(h:Ok s)(c:Int):Ok (s.idle c):=⟨h.gone,fun x hx jL=>⟨(h.dr x hx jL).1,fun hm=>(h.dr x hx jL).2 (aG.1 hm).1⟩,h.key,h.num,h.hd⟩
theorem aT(h:Ok s)(id:Int)(f:Bool)(hc: ∀r∈s.reqs,r.id=id->r.hedged=false->s.count id=0):Ok (s.aT id f):=by
 obtain⟨_,e1,e2,e4,e5,_⟩:=St.fA (s:=s) id f;refine⟨by rw[e5];exact h.gone, ?_,by rw[e1];exact h.key,by rw[e1,e2];exact h.num,fun r hr oK=> ?_⟩
 ·unfold St.held;rw[e1,e4,e5];exact h.dr
 ·rw[e2]at hr;have ec:(s.aT id f).count r.id=s.count r.id:=by unfold St.count;rw[e1]
  obtain⟨h1,h2⟩:=h.hd r hr oK;rw[ec];refine⟨h1,fun h0=> ?_⟩;rw[St.fK,St.lK];rintro(e|e)
  ·have:=hc r hr e oK;rw[e]at h0;omega
  ·rw[h2 h0]at e;cases e
theorem left(h:Ok s)(id:Int):Ok (s.left id):=by refine⟨h.gone,h.dr,h.key,h.num,fun r hr oK=>⟨(h.hd r hr oK).1,fun h0=> ?_⟩⟩;rw[St.fK,St.kL];rintro⟨_,e⟩;rw[(h.hd r hr oK).2 h0]at e;cases e
theorem reqs(h:Ok s)(l:List Rq)(hl: ∀r∈l,r∈s.reqs):Ok {s with reqs:=l}:=⟨h.gone,h.dr,h.key,fun a ha r hr=>h.num a ha r (hl r hr),fun r hr=>h.hd r (hl r hr)⟩
theorem bg(h:Ok s)(id:Int)(f:Rq->Rq)(h1: ∀r,(f r).id=r.id)(h2: ∀r,r.n<=(f r).n)(h3: ∀r,(f r).hedged=false->r.hedged=false):Ok (s.bg id f):=by
 refine⟨h.gone,h.dr,h.key,fun a ha r hr e=> ?_,fun r hr oK=> ?_⟩
 ·rcases bR hr with hr|⟨y,hy,_,rfl⟩
  ·exact h.num a ha r hr e
  ·exact Int.le_trans (h.num a ha y hy (by rw[<-h1];exact e)) (h2 y)
 ·rcases bR hr with hr|⟨y,hy,_,rfl⟩
  ·exact h.hd r hr oK
  ·rw[h1];exact h.hd y hy (h3 y oK)
theorem stops: ∀(f:Nat) {s:St} (id:Int),Ok s->Inv s->Ok (St.stops f s id)
 |0,_,_,h,_=>h
 |f+1,s,id,h,hi=>by
  unfold St.stops;split
  ·exact h
  ·split
   ·exact h
   ·exact stops f id ((h.say _ _).aU (St.bM hi _ _) _) (St.ba (St.bM hi _ _) _)
theorem shut(h:Ok s)(hi:Inv s)(id:Int):Ok (s.shut id):=
 ((stops s.ag.length id h hi).left id).reqs _ (fun _ hr=>(dW _ _).subset hr)
theorem again(h:Ok s)(hi:Inv s)(id:Int)(counts:Bool):Ok (s.again id counts):=by
 unfold St.again;split
 ·exact h
 ·rename_i hw;have hc:s.count id=0:=by
   rw[Bool.or_eq_true]at hw;have: ¬(decide (0<s.count id)=true):=fun e=>hw (.inr e);simpa using this
  split
  ·exact h
  ·split
   ·exact(h.say _ _).shut (St.bM hi _ _) _
   ·split
    ·exact(h.bg id (fun r=>{r with left:=r.left-1}) (fun _=>rfl) (fun _=>Int.le_refl _) (fun _ h=>h)).aT _ _ (fun _ _ _ _=>hc)
    ·exact h.aT _ _ (fun _ _ _ _=>hc)
end Ok
end Mc
namespace Mc
open bA
namespace St
variable{s:St}
theorem qG(hi:Inv s){r:Rq}(h:r∈s.reqs):s.req r.id=some r:=by obtain⟨r',h1,h2,h3⟩:=cf (s:=s) (i:=r.id) (by unfold ks;rw[az];exact ax.2 ⟨r,h,rfl⟩);have hn:=hi.rid;unfold ks at hn;rw[az]at hn;rw[h1,bC (k:=fun r:Rq=>r.id) hn h2 h h3]
theorem vW{l:Ln}{k:Nat}{id:Int}(hl:s.ring[k]?=some l)(hid:l.ids.head?=some id):(s.ring.flatMap (·.ids)).Perm (id::(s.ring.eraseIdx k++rest l).flatMap (·.ids)):=by
 refine(nj hl).trans ?_;rw[List.flatMap_append];have:l.ids=id::(rest l).flatMap (·.ids):=by
  unfold rest;split
  ·rename_i a b t hh;rw[hh]at hid⊢;simp at hid⊢;exact hid
  ·rename_i hh
   match hm:l.ids with
   | []=>rw[hm]at hid;cases hid
   | [a]=>rw[hm]at hid;simp at hid;subst hid;rfl
   |a::b::t=>exact absurd hm (hh a b t)
 rw[this];exact(List.perm_append_comm.cons id)
def giving(s:St)(c:Int)(ws:List Int)(k:Nat)(l:Ln)(id:Int)(r:Rq):St:=
 {s with wait:=ws,ring:=s.ring.eraseIdx k++rest l,reqs:=aA (·.id==id) (fun r=>{r with n:=r.n+1}) s.reqs,ag:=s.ag++ [⟨id,r.n+1,c,s.now,s.now+s.c.le⟩],begun:=s.begun+1}
theorem r6{c:Int}{ws:List Int}{k:Nat}{l:Ln}{id:Int}{r:Rq}(hl:s.ring[k]?=some l)(hid:l.ids.head?=some id)(hr:s.req id=some r):s.give c ws k=(s.giving c ws k l id r).say c (runText r (r.n+1)):=by unfold give;rw[hl];dsimp only;rw[hid];dsimp only;rw[hr];rfl
theorem um(hi:Inv s){k:Nat}{l:Ln}(hl:s.ring[k]?=some l): ∃id r,l.ids.head?=some id∧s.req id=some r∧r.ten=l.ten:=by
 obtain⟨h1,h2⟩:=hi.ring l (cK hl)
 match hm:l.ids with
 | []=>exact absurd hm h1
 |id::t=>have hk:=h2 id (by rw[hm];exact cB ..);obtain⟨r,hr,BC,e⟩:=cf (kE hk);refine⟨id,r,rfl,hr, ?_⟩;have:=uA hi hk;unfold ten at this;rw[hr]at this;exact this
end St
namespace Ok
variable{s:St}
theorem give(h:Ok s)(hi:Inv s)(c:Int)(ws:List Int)(k:Nat)(hw:s.wait=c::ws):Ok (s.give c ws k):=by
 cases hl:s.ring[k]? with
 |none=>unfold St.give;rw[hl];exact h
 |some l=>
  obtain⟨id,r,hid,hr,_⟩:=St.um hi hl;rw[St.r6 hl hid hr];obtain⟨Ec,mB,_⟩:=St.kJ hr;have hp:=St.vW hl hid;have gw:=hp.nodup_iff.1 hi.once;have XS:s.waits id=true:=by rw[St.cT,hp.mem_iff];exact cB ..
  refine say (s:=s.giving c ws k l id r) ⟨h.gone,fun x hx jL=> ?_, ?_,fun a ha q hq e=> ?_,fun q hq FA=> ?_⟩ _ _
  ·obtain⟨h1,h2⟩:=h.dr x hx jL;rw[hw]at h2;have cz:x.n≠c:=fun e=>h2 (by rw[e];exact cB ..);refine⟨?_,fun hm=>h2 (aY _ hm)⟩;have:(s.giving c ws k l id r).held x.n=s.held x.n:=by
    unfold St.held St.giving;rw[List.countP_append];simp[Ne.symm cz]
   rw[this];exact h1
  ·show((s.ag++ [_]).map fun a:At=>(a.id,a.n)).Nodup;rw[aB,List.nodup_append];refine⟨h.key,by simp,fun a ha b hb e=> ?_⟩;simp at hb;subst hb;obtain⟨x,hx,rfl⟩:=ax.1 ha;injection e with e1 e2
   have:=h.num x hx r Ec (by rw[mB,e1]);omega
  ·unfold St.giving at ha hq;dsimp only at ha hq;rcases bR hq with uJ|⟨y,hy,aX,rfl⟩
   ·rcases List.mem_append.1 ha with ha|ha
    ·exact h.num a ha q uJ e
    ·obtain rfl:=cC.1 ha;dsimp only at e⊢;exfalso;have hn:=hi.rid;unfold St.ks at hn;rw[az]at hn;rw[bj (fun r:Rq=>r.id) id _ hn]at hq;obtain⟨z,hz,ez⟩:=ax.1 hq;by_cases e3:z.id=id
     ·simp only[e3,beq_self_eq_true,if_true]at ez;have e4:z=q:=bC (k:=fun r:Rq=>r.id) hn hz uJ (by rw[e3,e]);subst e4;have:=congrArg Rq.n ez;simp at this;omega
     ·simp only[beq_iff_eq,if_neg e3]at ez;subst ez;exact e3 e
   ·have ey:y.id=id:=by simpa using aX
    rcases List.mem_append.1 ha with ha|ha
    ·have:=h.num a ha y hy e;show a.n<=y.n+1;omega
    ·obtain rfl:=cC.1 ha;have hn:=hi.rid;unfold St.ks at hn;rw[az]at hn;obtain rfl:y=r:=bC (k:=fun r:Rq=>r.id) hn hy Ec (by rw[ey,mB]);exact Int.le_refl _
  ·have hc: ∀i,(s.giving c ws k l id r).count i=s.count i+if id=i then 1 else 0:=by
    intro i;unfold St.count St.giving;rw[List.countP_append];simp
   obtain⟨y,hy,ey,hh⟩: ∃y∈s.reqs,y.id=q.id∧y.hedged=false:=by
    unfold St.giving at hq;dsimp only at hq;rcases bR hq with hq|⟨y,hy,_,rfl⟩
    ·exact⟨q,hq,rfl,FA⟩
    ·exact⟨y,hy,rfl,FA⟩
   obtain⟨h1,h2⟩:=h.hd y hy hh;rw[hc,<-ey];by_cases e:id=y.id
   ·rw[if_pos e];have h0:s.count y.id=0:=by
     rcases Nat.eq_zero_or_pos (s.count y.id)with h|h
     ·exact h
     ·have:=h2 h;rw[<-e,XS]at this;cases this
    refine⟨by omega,fun _=> ?_⟩;rw[St.fK,St.cT];rw[<-e];exact(List.nodup_cons.1 gw).1
   ·rw[if_neg e];refine⟨h1,fun h0=> ?_⟩;have:=h2 h0;rw[St.fK,St.cT]at this⊢;intro hm;exact this (hp.mem_iff.2 (aY _ hm))
theorem bK: ∀(f:Nat) {s:St},Ok s->Inv s->Ok (St.bK f s)
 |0,_,h,_=>h
 |f+1,s,h,hi=>by
  unfold St.bK;split
  ·exact h
  ·rename_i c ws hw;split
   ·exact h
   ·exact bK f (h.give hi c ws _ hw) (St.jV hi c ws (by rw[hw];exact List.sublist_cons_self ..) _)
theorem serve(h:Ok s)(hi:Inv s):Ok s.serve:=bK _ h hi
theorem bV: ∀(f:Nat) {s:St},Ok s->Inv s->Ok (St.bV f s)
 |0,_,h,_=>h
 |f+1,s,h,hi=>by
  unfold St.bV;split
  ·exact h
  ·split
   ·exact h
   ·have h1:=St.bM hi;exact bV f (((h.say _ _).aU (h1 _ _) _).again (St.ba (h1 _ _) _) _ _) (St.dt (St.ba (h1 _ _) _) _ _)
theorem bG(h:Ok s)(hi:Inv s)(a:At):Ok (s.bG a):=by
 unfold St.bG;split
 ·exact h
 ·rename_i r hr;split
  ·refine(h.bg a.id (fun r=>{r with hedged:=true}) (fun _=>rfl) (fun _=>Int.le_refl _) (fun _ h=>by cases h)).aT _ _ (fun q hq e hh=> ?_);exfalso;have hn:=hi.rid;unfold St.ks at hn;rw[az]at hn;unfold St.bg at hq;dsimp only at hq;rw[bj (fun r:Rq=>r.id) a.id _ hn]at hq;obtain⟨z,hz,ez⟩:=ax.1 hq;by_cases e3:z.id=a.id
   ·simp only[e3,beq_self_eq_true,if_true]at ez;subst ez;cases hh
   ·simp only[beq_iff_eq,if_neg e3]at ez;subst ez;exact e3 e
  ·exact h
theorem fold: ∀(l:List At) {s:St},Ok s->Inv s->Ok (l.foldl St.bG s)
 | [],_,h,_=>h
 |a::l,s,h,hi=>by rw[List.foldl_cons];exact fold l (h.bG hi a) (St.nx hi a)
theorem dp(h:Ok s)(hi:Inv s):Ok s.dp:=fold _ h hi
theorem tick(h:Ok s)(hi:Inv s):Ok s.tick:=
 ((bV _ (h.now _) (St.jz hi _)).dp (St.gG _ (St.jz hi _))).serve (St.iQ (St.gG _ (St.jz hi _)))
theorem bH: ∀(f:Nat) {s:St} (i:Nat) (id c:Int),Ok s->Inv s->Ok (St.bH f s i id c)
 |0,_,_,_,_,h,_=>h
 |f+1,s,i,id,c,h,hi=>by
  unfold St.bH;split
  ·exact h
  ·split
   ·exact bH f _ _ _ (h.aU hi _) (St.ba hi _)
   ·exact bH f _ _ _ h hi
theorem aO: ∀(f:Nat) {s:St} (c:Int),Ok s->Inv s->Ok (St.aO f s c)
 |0,_,_,h,_=>h
 |f+1,s,c,h,hi=>by
  unfold St.aO;split
  ·exact h
  ·have vk:=(St.dK s.ag.length s 0 (by assumption) c).inv hi;exact aO f c ((bH _ _ _ _ h hi).shut vk _) (St.gU vk _)
theorem aN: ∀(f:Nat) {s:St} (c:Int),Ok s->Inv s->Ok (St.aN f s c)
 |0,_,_,h,_=>h
 |f+1,s,c,h,hi=>by
  unfold St.aN;split
  ·exact h
  ·split
   ·exact h
   ·exact aN f c ((h.aU hi _).again (St.ba hi _) _ _) (St.dt (St.ba hi _) _ _)
theorem less(h:Ok s)(p:Cn->Bool):Ok {s with ak:=s.ak.filter p}:=⟨fun x hx=>h.gone x (aG.1 hx).1,fun x hx=>h.dr x (aG.1 hx).1,h.key,h.num,h.hd⟩
theorem close(h:Ok s)(hi:Inv s)(c:Int):Ok (s.close c):=by have h1:=St.iU hi c;have BB:Inv ({s.idle c with ak:=(s.idle c).ak.filter (·.n !=c)}:St):=⟨h1.rid,h1.bB,h1.ring,h1.dV,h1.once,(List.filter_sublist.map _).nodup h1.cn,h1.wt⟩;have h2:=(h.idle c).less (·.n !=c);exact(aN _ _ (aO _ _ h2 BB) (St.cM _ _ BB)).serve (St.dS _ _ (St.cM _ _ BB))
