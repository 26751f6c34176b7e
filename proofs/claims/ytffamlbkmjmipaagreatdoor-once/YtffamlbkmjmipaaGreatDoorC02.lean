import Derived.Test.YtffamlbkmjmipaaGreatDoorC01
set_option maxHeartbeats 8000000
set_option maxRecDepth 100000
namespace Go.Proofs.YtffamlbkmjmipaaGreatDoor
namespace bG
open Go.RowKit
structure Mg where
 kind:List UInt8
 id:Int
 bF:Int
 ten:List UInt8
 txt:List UInt8
def Mg.cs(m:Mg):Array Value:= #[.string ⟨m.kind.toArray⟩, .int .i64 m.id, .int .i64 m.bF, .string ⟨m.ten.toArray⟩, .string ⟨m.txt.toArray⟩]
def eY:List UInt8:= [112,117,108,108]
def eX:List UInt8:= [98,101,97,116]
def cU:List UInt8:= [100,114,97,105,110]
def gW:List UInt8:= [99,97,110]
def kFail:List UInt8:= [102,97,105,108]
def bO:List UInt8:= [100,111,110,101]
def fT:List UInt8:= [115,117,98]
end bG
namespace Mc
open bG
abbrev Bs:=List UInt8
structure Cn where
 n:Int
 rest:Bs
 drains:Bool
 gone:Bool
 deriving DecidableEq
structure pz where
 le:Int
 re:Int
 ca:Int
 bo:Int
 he:Int
 deriving DecidableEq
structure Rq where
 id:Int
 conn:Int
 ten:Bs
 txt:Bs
 n:Int
 left:Int
 hedged:Bool
 deriving DecidableEq
structure At where
 id:Int
 n:Int
 conn:Int
 sY:Int
 fx:Int
 deriving DecidableEq
structure Ln where
 ten:Bs
 ids:List Int
 deriving DecidableEq
structure St where
 c:pz
 now:Int:=0
 reqs:List Rq:= []
 ah:List At:= []
 ring:List Ln:= []
 wait:List Int:= []
 aq:List Cn:= []
 out:List (Int×Bs):= []
 begun:Nat:=0
 deriving DecidableEq
def kP:Nat->Nat->Bs
 |0,_=> []
 |f+1,n=>if n<10 then [UInt8.ofNat (48+n)]else kP f (n/10)++ [UInt8.ofNat (48+n %10)]
def bZ(x:Int):Bs:=kP 20 x.toNat
def aK{α:Type}(p:α->Bool)(f:α->α):List α->List α
 | []=> []
 |x::l=>if p x then f x::l else x::aK p f l
def dropFirst{α:Type}(p:α->Bool):List α->List α
 | []=> []
 |x::l=>if p x then l else x::dropFirst p l
namespace St
def say(s:St)(c:Int)(t:Bs):St:={s with out:=s.out++ [(c,t)]}
def told(s:St):St:={s with out:= []}
def conn(s:St)(c:Int):St:=if s.aq.any (·.n==c)then s else{s with aq:=s.aq++ [⟨c, [],false,false⟩]}
def drains(s:St)(c:Int):Bool:=match s.aq.find? (·.n==c)with|some x=>x.drains|none=>false
def req(s:St)(id:Int):Option Rq:=s.reqs.find? (·.id==id)
def ten(s:St)(id:Int):Bs:=match s.req id with|some r=>r.ten|none=> []
def held(s:St)(c:Int):Nat:=s.ah.countP (·.conn==c)
def count(s:St)(id:Int):Nat:=s.ah.countP (·.id==id)
def waits(s:St)(id:Int):Bool:=s.ring.any (·.ids.any (· ==id))
def runs(s:St)(t:Bs):Nat:=s.ah.countP (fun a=>s.ten a.id==t)
def fp(s:St)(c:Int):St:=
 if s.aq.any (fun x=>x.n==c &&x.drains && !x.gone) &&s.held c==0 then
  {s with aq:=aK (fun x=>x.n==c) (fun x=>{x with gone:=true}) s.aq}.say c [98,121,101]
 else s
def aZ(s:St)(i:Nat):St:=
 match s.ah[i]? with
 |some a=>{s with ah:=s.ah.eraseIdx i}.fp a.conn
 |none=>s
def idle(s:St)(c:Int):St:={s with wait:=s.wait.filter (· !=c)}
def aX(s:St)(id:Int)(first:Bool):St:=
 if s.ring.any (·.ten==s.ten id)then
  {s with ring:=aK (·.ten==s.ten id) (fun l=>{l with ids:=if first then id::l.ids else l.ids++ [id]}) s.ring}
 else{s with ring:=s.ring++ [⟨s.ten id, [id]⟩]}
def left(s:St)(id:Int):St:=
 {s with ring:=(s.ring.map (fun l=>({l with ids:=l.ids.filter (· !=id)}:Ln))).filter (fun l=> !l.ids.isEmpty)}
def aU(id n:Int):Bs:= [115,116,111,112,32]++bZ id++ [32]++bZ n
def stops:Nat->St->Int->St
 |0,s,_=>s
 |f+1,s,id=>
  match s.ah.findIdx? (·.id==id)with
  |none=>s
  |some i=>
   match s.ah[i]? with
   |none=>s
   |some a=>stops f ((s.say a.conn (aU id a.n)).aZ i) id
def shut(s:St)(id:Int):St:=
 let s:=(stops s.ah.length s id).left id
 {s with reqs:=dropFirst (·.id==id) s.reqs}
def bj(s:St)(id:Int)(f:Rq->Rq):St:={s with reqs:=aK (·.id==id) f s.reqs}
def again(s:St)(id:Int)(counts:Bool):St:=
 if s.waits id||0<s.count id then s else
 match s.req id with
 |none=>s
 |some r=>
  if counts &&r.left==0 then(s.say r.conn ([101,114,114,32]++bZ id)).shut id
  else(if counts then s.bj id (fun r=>{r with left:=r.left-1})else s).aX id true
def runText(r:Rq)(n:Int):Bs:= [114,117,110,32]++bZ r.id++ [32]++bZ n++ [32]++r.ten++ [32]++r.txt
def rest(l:Ln):List Ln:=match l.ids with|_::i::r=> [⟨l.ten,i::r⟩]|_=> []
def give(s:St)(c:Int)(ws:List Int)(k:Nat):St:=
 match s.ring[k]? with
 |none=>s
 |some l=>
  match l.ids.head? with
  |none=>s
  |some id=>
   match s.req id with
   |none=>s
   |some r=>({s with wait:=ws,ring:=s.ring.eraseIdx k++rest l,reqs:=aK (·.id==id) (fun r=>{r with n:=r.n+1}) s.reqs,ah:=s.ah++ [⟨id,r.n+1,c,s.now,s.now+s.c.le⟩],begun:=s.begun+1}:St).say c (runText r (r.n+1))
def bR:Nat->St->St
 |0,s=>s
 |f+1,s=>
  match s.wait with
  | []=>s
  |c::ws=>
   match s.ring.findIdx? (fun l=>(s.runs l.ten:Int)<s.c.ca)with
   |none=>s
   |some k=>bR f (s.give c ws k)
def serve(s:St):St:=bR s.wait.length s
def lN(now:Int):List At->Nat->Option (Nat×Int)->Option (Nat×Int)
 | [],_,b=>b
 |a::l,i,b=>lN now l (i+1) (if a.fx<=now then(match b with|none=>some (i,a.fx)|some (j,t)=>if a.fx<t then some (i,a.fx)else some (j,t))else b)
def due(s:St):Option Nat:=(lN s.now s.ah 0 none).map (·.1)
def bV:Nat->St->St
 |0,s=>s
 |f+1,s=>
  match s.due with
  |none=>s
  |some i=>
   match s.ah[i]? with
   |none=>s
   |some a=>bV f (((s.say a.conn (aU a.id a.n)).aZ i).again a.id true)
def bk(s:St)(a:At):St:=
 match s.req a.id with
 |none=>s
 |some r=>
  if 0<s.c.he &&s.c.he<=s.now-a.sY && !r.hedged && !s.waits a.id &&s.count a.id==1 then
   (s.bj a.id (fun r=>{r with hedged:=true})).aX a.id false
  else s
def dE(s:St):St:=s.ah.foldl bk s
def tick(s:St):St:=
 let s:={s with now:=s.now+1}
 (bV s.ah.length s).dE.serve
def least(s:St)(c:Int):Option Int:=
 s.reqs.foldl (fun b r=>if r.conn==c &&(match b with|none=>true|some i=>decide (r.id<i))then some r.id else b) none
def bp:Nat->St->Nat->Int->Int->St
 |0,s,_,_,_=>s
 |f+1,s,i,id,c=>
  match s.ah[i]? with
  |none=>s
  |some a=>if a.id==id &&a.conn==c then bp f (s.aZ i) i id c else bp f s (i+1) id c
def aM:Nat->St->Int->St
 |0,s,_=>s
 |f+1,s,c=>
  match s.least c with
  |none=>s
  |some id=>aM f ((bp s.ah.length s 0 id c).shut id) c
def aP:Nat->St->Int->St
 |0,s,_=>s
 |f+1,s,c=>
  match s.ah.findIdx? (·.conn==c)with
  |none=>s
  |some i=>
   match s.ah[i]? with
   |none=>s
   |some a=>aP f ((s.aZ i).again a.id false) c
def close(s:St)(c:Int):St:=
 let s:=s.idle c
 let s:={s with aq:=s.aq.filter (·.n !=c)}
 let s:=aM s.reqs.length s c
 (aP s.ah.length s c).serve
def queued(s:St):Nat:=(s.ring.map (·.ids.length)).sum
def cf(s:St)(c:Int)(m:Mg):St:=
 if(s.req m.id).isSome then s.say c ([114,101,106,32]++bZ m.id++ [32,100,117,112])
 else if s.ring.any (fun l=>l.ten==m.ten &&decide (s.c.bo<=(l.ids.length:Int)))then s.say c ([114,101,106,32]++bZ m.id++ [32,102,117,108,108])
 else(({s with reqs:=s.reqs++ [⟨m.id,c,m.ten,m.txt,0,s.c.re,false⟩]}:St).say c ([97,99,99,32]++bZ m.id)).aX m.id false
def Ck(s:St)(id n:Int):Option Nat:=s.ah.findIdx? (fun a=>a.id==id &&a.n==n)
def mine(s:St)(c id n:Int):Option Nat:=
 match s.Ck id n with
 |none=>none
 |some i=>match s.ah[i]? with|none=>none|some a=>if a.conn==c then some i else none
def message(s:St)(c:Int)(m:Mg):St:=
 if m.kind=fT then s.cf c m
 else if m.kind=gW then
  match s.req m.id with
  |none=>s.say c ([110,111,110,101,32]++bZ m.id)
  |some r=>if r.conn==c then(s.say c ([103,111,110,101,32]++bZ m.id)).shut m.id else s.say c ([110,111,110,101,32]++bZ m.id)
 else if m.kind=eY then
  if s.wait.any (· ==c)then s
  else
   let s:=s.conn c
   if s.drains c then s else{s with wait:=s.wait++ [c]}
 else if m.kind=eX then
  {s with ah:=s.ah.map (fun a=>if a.conn==c then{a with fx:=s.now+s.c.le}else a)}
 else if m.kind=bO then
  match s.mine c m.id m.bF with
  |none=>s
  |some i=>
   match s.req m.id with
   |none=>s
   |some r=>((s.say r.conn ([118,97,108,32]++bZ m.id++ [32]++m.txt)).aZ i).shut m.id
 else if m.kind=kFail then
  match s.mine c m.id m.bF with
  |none=>s
  |some i=>(s.aZ i).again m.id true
 else if m.kind=cU then
  let s:=s.conn c
  let s:={s with aq:=aK (fun x=>x.n==c) (fun x=>{x with drains:=true}) s.aq}
  (s.idle c).fp c
 else s
end St
end Mc
namespace Mc
open bG
section lists
variable{α β:Type}
theorem bn(p:α->Bool)(f:α->α)(g:α->β)(hg: ∀x,g (f x)=g x)(l:List α):(aK p f l).map g=l.map g:=by
 induction l with
 |nil=>rfl
 |cons x l ih=>unfold aK;split<;>simp[hg,ih]
theorem bJ{p:α->Bool}{f:α->α}{l:List α}{x:α}(h:x∈aK p f l):x∈l∨ ∃y∈l,p y=true∧x=f y:=by
 induction l with
 |nil=>cases h
 |cons y l ih=>
  unfold aK at h;split at h
  ·rename_i hp;rcases List.mem_cons.1 h with h|h
   ·exact .inr ⟨y,bY ..,hp,h⟩
   ·exact .inl (aV _ h)
  ·rcases List.mem_cons.1 h with h|h
   ·exact .inl (h▸bY ..)
   ·rcases ih h with h|⟨z,hz,h⟩
    ·exact .inl (aV _ h)
    ·exact .inr ⟨z,aV _ hz,h⟩
theorem cV(p:α->Bool)(f:α->α)(l:List α):(aK p f l).length=l.length:=by have:=congrArg List.length (bn p f (fun _=>()) (fun _=>rfl) l);simpa using this
theorem dt(p:α->Bool)(l:List α):(dropFirst p l).Sublist l:=by
 induction l with
 |nil=>exact List.Sublist.refl _
 |cons x l ih=>
  unfold dropFirst;split
  ·exact List.sublist_cons_self ..
  ·exact ih.cons_cons _
theorem zD{p:α->Bool}{l:List α}{x:α}(h:x∈l)(hp:p x=false):x∈dropFirst p l:=by
 induction l with
 |nil=>cases h
 |cons y l ih=>
  unfold dropFirst;split
  ·rename_i hy;rcases List.mem_cons.1 h with h|h
   ·subst h;rw[hp]at hy;cases hy
   ·exact h
  ·rcases List.mem_cons.1 h with h|h
   ·exact h▸bY ..
   ·exact aV _ (ih h)
end lists
def St.ks(s:St):List (Int×Bs):=s.reqs.map fun r=>(r.id,r.ten)
structure Inv(s:St):Prop where
 rid:(s.ks.map (·.1)).Nodup
 bF: ∀a∈s.ah,a.id∈s.ks.map (·.1)
 ring: ∀l∈s.ring,l.ids≠ []∧ ∀i∈l.ids,(i,l.ten)∈s.ks
 fu:(s.ring.map (·.ten)).Nodup
 once:(s.ring.flatMap (·.ids)).Nodup
 cn:(s.aq.map (·.n)).Nodup
 wt:s.wait.Nodup
namespace St
theorem lT{s:St}{i:Int}{t:Bs}(h:(i,t)∈s.ks):i∈s.ks.map (·.1):=az.2 ⟨_,h,rfl⟩
theorem cu{s:St}{i:Int}(h:i∈s.ks.map (·.1)): ∃r,s.req i=some r∧r∈s.reqs∧r.id=i:=by unfold ks at h;rw[aB]at h;obtain⟨r,hr,e⟩:=az.1 h;have:(s.reqs.find? (·.id==i)).isSome:=List.find?_isSome.2 ⟨r,hr,by simpa using e⟩;obtain⟨r',h'⟩:=Option.isSome_iff_exists.1 this;exact⟨r',h',cI h',by simpa using List.find?_some h'⟩
theorem lZ{s:St}{i:Int}{r:Rq}(h:s.req i=some r):r∈s.reqs∧r.id=i∧(i,r.ten)∈s.ks:=by
 have h1:=cI h;have h2:r.id=i:=by simpa using List.find?_some h
 refine⟨h1,h2,az.2 ⟨r,h1,by rw[h2]⟩⟩
theorem Wu{l:List (Int×Bs)}(h:(l.map (·.1)).Nodup){i:Int}{t t':Bs}(h1:(i,t)∈l)(h2:(i,t')∈l):t=t':=by
 induction l with
 |nil=>cases h1
 |cons x l ih=>
  rw[List.map_cons,List.nodup_cons]at h;rcases List.mem_cons.1 h1 with e1|e1
  ·rcases List.mem_cons.1 h2 with e2|e2
   ·rw[<-e1]at e2;exact(Prod.mk.inj e2).2.symm
   ·exact absurd (az.2 ⟨_,e2,by rw[<-e1]⟩) h.1
  ·rcases List.mem_cons.1 h2 with e2|e2
   ·exact absurd (az.2 ⟨_,e1,by rw[<-e2]⟩) h.1
   ·exact ih h.2 e1 e2
theorem yM{s:St}(hi:Inv s){i:Int}{t:Bs}(h:(i,t)∈s.ks):s.ten i=t:=by obtain⟨r,hr,hm,e⟩:=cu (lT h);unfold ten;rw[hr];exact Wu hi.rid (az.2 ⟨r,hm,by rw[e]⟩) h
theorem TS{s:St}{i:Int}(h:i∈s.ks.map (·.1)):(i,s.ten i)∈s.ks:=by obtain⟨r,hr,hm,e⟩:=cu h;unfold ten;rw[hr];exact az.2 ⟨r,hm,by rw[e]⟩
theorem cS{s:St}{i:Int}:s.waits i=true↔i∈s.ring.flatMap (·.ids):=by unfold waits;simp[List.any_eq_true,List.mem_flatMap]
variable{s:St}
theorem WU(c:Int)(t:Bs):(s.say c t).ks=s.ks:=rfl
theorem bM(h:Inv s)(c:Int)(t:Bs):Inv (s.say c t):=⟨h.rid,h.bF,h.ring,h.fu,h.once,h.cn,h.wt⟩
theorem Q3(h:Inv s):Inv s.told:=⟨h.rid,h.bF,h.ring,h.fu,h.once,h.cn,h.wt⟩
theorem kN(h:Inv s)(c:Int):Inv (s.conn c):=by
 unfold conn;split
 ·exact h
 ·rename_i hn;refine⟨h.rid,h.bF,h.ring,h.fu,h.once, ?_,h.wt⟩;show((s.aq++ [(⟨c, [],false,false⟩:Cn)]).map (·.n)).Nodup;rw[aD,List.nodup_append];refine⟨h.cn,by simp,fun a ha b hb=> ?_⟩;simp at hb;subst hb;intro e;apply hn;obtain⟨x,hx,rfl⟩:=az.1 ha;rw[List.any_eq_true];exact⟨x,hx,by simpa using e⟩
theorem kO(h:Inv s)(f:Cn->Cn)(hf: ∀x,(f x).n=x.n)(p:Cn->Bool):Inv {s with aq:=aK p f s.aq}:=
 ⟨h.rid,h.bF,h.ring,h.fu,h.once,by show((aK p f s.aq).map (·.n)).Nodup;rw[bn p f (·.n) hf];exact h.cn,h.wt⟩
theorem Ij(h:Inv s)(c:Int):Inv (s.fp c):=by
 unfold fp;split
 ·exact bM (kO h (fun x=>{x with gone:=true}) (fun _=>rfl) _) _ _
 ·exact h
theorem vS(c:Int):(s.fp c).ks=s.ks∧(s.fp c).ah=s.ah∧(s.fp c).ring=s.ring∧(s.fp c).reqs=s.reqs∧(s.fp c).wait=s.wait∧(s.fp c).c=s.c∧(s.fp c).now=s.now:=by
 unfold fp;split
 ·exact⟨rfl,rfl,rfl,rfl,rfl,rfl,rfl⟩
 ·exact⟨rfl,rfl,rfl,rfl,rfl,rfl,rfl⟩
theorem qZ(h:Inv s)(l:List At)(hl: ∀a∈l,a.id∈s.ks.map (·.1)):Inv {s with ah:=l}:=⟨h.rid,hl,h.ring,h.fu,h.once,h.cn,h.wt⟩
theorem bg(h:Inv s)(i:Nat):Inv (s.aZ i):=by
 unfold aZ;split
 ·exact Ij (qZ h _ (fun a ha=>h.bF a (List.mem_of_mem_eraseIdx ha))) _
 ·exact h
theorem dD(i:Nat):(s.aZ i).ks=s.ks∧(s.aZ i).ah=s.ah.eraseIdx i∧(s.aZ i).ring=s.ring∧(s.aZ i).reqs=s.reqs∧(s.aZ i).wait=s.wait∧(s.aZ i).c=s.c∧(s.aZ i).now=s.now:=by
 unfold aZ;split
 ·exact vS _
 ·rename_i e;have:s.ah.length<=i:=List.getElem?_eq_none_iff.1 e;exact⟨rfl,(List.eraseIdx_of_length_le this).symm,rfl,rfl,rfl,rfl,rfl⟩
theorem jr(h:Inv s)(c:Int):Inv (s.idle c):=⟨h.rid,h.bF,h.ring,h.fu,h.once,h.cn,h.wt.filter _⟩
theorem yF(h:Inv s)(r:List Ln)(h1: ∀l∈r,l.ids≠ []∧ ∀i∈l.ids,(i,l.ten)∈s.ks)(h2:(r.map (·.ten)).Nodup)(h3:(r.flatMap (·.ids)).Nodup):Inv {s with ring:=r}:=
 ⟨h.rid,h.bF,h1,h2,h3,h.cn,h.wt⟩
theorem wx{id:Int}{first:Bool}{t:Bs}: ∀{r:List Ln},r.any (·.ten==t)=true->(id::r.flatMap (·.ids)).Perm ((aK (·.ten==t) (fun l=>{l with ids:=if first then id::l.ids else l.ids++ [id]}) r).flatMap (·.ids))
 | [],h=>by simp at h
 |l::r,h=>by
  unfold aK;by_cases hl:(l.ten==t)=true
  ·rw[if_pos hl];simp only[List.flatMap_cons];cases first
   ·simp only[Bool.false_eq_true,if_false];rw[List.append_assoc];exact List.perm_middle.symm
   ·simp
  ·rw[if_neg hl];simp only[List.flatMap_cons];have hr:r.any (·.ten==t)=true:=by simpa[hl]using h
   exact(List.perm_middle.symm).trans ((wx hr).append_left l.ids)
theorem je(h:Inv s){id:Int}(hid:id∈s.ks.map (·.1))(hw:s.waits id=false)(first:Bool):Inv (s.aX id first):=by
 have hn:id∉s.ring.flatMap (·.ids):=fun e=>by rw[cS.2 e]at hw;cases hw
 have hk:=TS hid;unfold aX;split
 ·rename_i ha;refine yF h _ (fun l hl=> ?_) ?_ ?_
  ·rcases bJ hl with hl|⟨l',V1,ht,rfl⟩
   ·exact h.ring l hl
   ·obtain⟨h1,h2⟩:=h.ring l' V1;have C9:l'.ten=s.ten id:=by simpa using ht
    refine⟨?_,fun i hi=> ?_⟩
    ·dsimp only;split<;>simp
    ·dsimp only at hi⊢;split at hi
     ·rcases List.mem_cons.1 hi with e|e
      ·rw[e,C9];exact hk
      ·exact h2 i e
     ·rcases List.mem_append.1 hi with e|e
      ·exact h2 i e
      ·rw[b9.1 e,C9];exact hk
  ·rw[bn (·.ten==s.ten id) (fun l:Ln=>{l with ids:=if first then id::l.ids else l.ids++ [id]}) (·.ten) (fun _=>rfl)];exact h.fu
  ·exact(wx (id:=id) (first:=first) ha).nodup_iff.1 (List.nodup_cons.2 ⟨hn,h.once⟩)
 ·rename_i ha;refine yF h _ (fun l hl=> ?_) ?_ ?_
  ·rcases List.mem_append.1 hl with hl|hl
   ·exact h.ring l hl
   ·obtain rfl:=b9.1 hl;refine⟨by simp,fun i hi=> ?_⟩;rw[b9.1 hi];exact hk
  ·rw[aD,List.nodup_append];refine⟨h.fu,by simp,fun a h1 b hb e=>ha ?_⟩;obtain⟨l,hl,rfl⟩:=az.1 h1;rw[List.any_eq_true];refine⟨l,hl, ?_⟩;simp at hb;subst hb;simpa using e
  ·rw[List.flatMap_append,List.nodup_append];refine⟨h.once,by simp,fun a h1 b hb e=>hn ?_⟩;simp at hb;subst hb;exact e▸h1
theorem fW(id:Int)(first:Bool):(s.aX id first).ks=s.ks∧(s.aX id first).ah=s.ah∧(s.aX id first).reqs=s.reqs∧(s.aX id first).wait=s.wait∧(s.aX id first).aq=s.aq∧(s.aX id first).out=s.out∧(s.aX id first).c=s.c∧(s.aX id first).now=s.now:=by unfold aX;split<;>exact⟨rfl,rfl,rfl,rfl,rfl,rfl,rfl,rfl⟩
theorem tK(r:List Ln)(id:Int):((r.map (fun l=>({l with ids:=l.ids.filter (· !=id)}:Ln))).filter (fun l=> !l.ids.isEmpty)).flatMap (·.ids)=(r.flatMap (·.ids)).filter (· !=id):=by
 induction r with
 |nil=>rfl
 |cons l r ih=>
  rw[List.map_cons,List.filter_cons,List.flatMap_cons,List.filter_append,<-ih];split
  ·rw[List.flatMap_cons]
  ·rename_i h;have:l.ids.filter (· !=id)= []:=by simpa using h
   rw[this];rfl
theorem rO(h:Inv s)(id:Int):Inv (s.left id):=by
 refine yF h _ (fun l hl=> ?_) ?_ ?_
 ·obtain⟨hl,cA⟩:=aL.1 hl;obtain⟨l',V1,rfl⟩:=az.1 hl;refine⟨by simpa using cA,fun i hi=> ?_⟩;exact(h.ring l' V1).2 i ((aL.1 hi).1)
 ·have e:(s.ring.map (fun l=>({l with ids:=l.ids.filter (· !=id)}:Ln))).map (·.ten)=s.ring.map (·.ten):=by rw[aB];rfl
  exact((List.filter_sublist).map _).nodup (e▸h.fu)
 ·rw[tK];exact h.once.filter _
theorem GR(id:Int):(s.left id).waits id=false:=by
 cases hw:(s.left id).waits id with
 |false=>rfl
 |true=>rw[cS]at hw;unfold left at hw;dsimp only at hw;rw[tK,aL]at hw;simp at hw
end St
end Mc
namespace Mc
open bG
namespace St
variable{s:St}
theorem fF{α:Type}{p:α->Bool}{l:List α}{i:Nat}(h:l.findIdx? p=some i): ∃x,l[i]?=some x∧p x=true:=by obtain⟨hi,hp,_⟩:=List.findIdx?_eq_some_iff_getElem.1 h;exact⟨l[i],aY hi,hp⟩
theorem iV{α:Type}{l:List α}{i:Nat}{x:α}(h:l[i]?=some x):(l.eraseIdx i).length+1=l.length:=by obtain⟨hi,_⟩:=cz.1 h;rw[List.length_eraseIdx,if_pos hi];omega
structure dp(s s':St)(id:Int):Prop where
 inv:Inv s->Inv s'
 ks:s'.ks=s.ks
 reqs:s'.reqs=s.reqs
 ring:s'.ring=s.ring
 wait:s'.wait=s.wait
 cfg:s'.c=s.c
 now:s'.now=s.now
 sub:s'.ah.Sublist s.ah
theorem dp.refl(s:St)(id:Int):dp s s id:=⟨id',rfl,rfl,rfl,rfl,rfl,rfl,List.Sublist.refl _⟩ where id':=fun h=>h
theorem dp.trans{s s' uM:St}{id:Int}(h:dp s s' id)(h':dp s' uM id):dp s uM id:=
 ⟨fun hi=>h'.inv (h.inv hi),h'.ks.trans h.ks,h'.reqs.trans h.reqs,h'.ring.trans h.ring,h'.wait.trans h.wait,h'.cfg.trans h.cfg,h'.now.trans h.now,h'.sub.trans h.sub⟩
theorem Ef(s:St)(id:Int)(c:Int)(t:Bs)(i:Nat):dp s ((s.say c t).aZ i) id:=by obtain⟨e1,e2,e3,e4,e5,e6,e7⟩:=dD (s:=s.say c t) i;exact⟨fun h=>bg (bM h _ _) _,e1,e4,e3,e5,e6,e7,by rw[e2];exact List.eraseIdx_sublist ..⟩
theorem Sn(s:St)(id:Int)(i:Nat):dp s (s.aZ i) id:=by obtain⟨e1,e2,e3,e4,e5,e6,e7⟩:=dD (s:=s) i;exact⟨fun h=>bg h _,e1,e4,e3,e5,e6,e7,by rw[e2];exact List.eraseIdx_sublist ..⟩
theorem jc: ∀(f:Nat) (s:St) (id:Int),dp s (stops f s id) id
 |0,s,id=>dp.refl s id
 |f+1,s,id=>by
  unfold stops;split
  ·exact dp.refl s id
  ·split
   ·exact dp.refl s id
   ·exact(Ef s id _ _ _).trans (jc f _ id)
theorem yL: ∀(f:Nat) (s:St) (id:Int),s.ah.length<=f-> ∀a∈(stops f s id).ah,a.id≠id
 |0,s,id,h=>by unfold stops;have:s.ah= []:=List.eq_nil_of_length_eq_zero (by omega);rw[this];intro a ha;cases ha
 |f+1,s,id,h=>by
  unfold stops;split
  ·rename_i hn;intro a ha e;have:=List.findIdx?_eq_none_iff.1 hn a ha;simp[e]at this
  ·rename_i i hi;obtain⟨x,hx,hp⟩:=fF hi;rw[hx];refine yL f _ id ?_;rw[(dD (s:=s.say _ _) i).2.1];have:=iV hx;show((s.ah.eraseIdx i).length)<=f;omega
theorem FU{s:St}{id:Int}(h: ∀a∈s.ah,a.id≠id):s.count id=0:=by unfold count;rw[List.countP_eq_zero];intro a ha;simpa using h a ha
theorem mX{l:List Rq}{i id:Int}{t:Bs}(h:(i,t)∈l.map fun r=>(r.id,r.ten))(cA:i≠id):(i,t)∈(dropFirst (·.id==id) l).map fun r=>(r.id,r.ten):=by obtain⟨r,hr,e⟩:=az.1 h;exact az.2 ⟨r,zD hr (by have:=(Prod.mk.inj e).1;simp[this,cA]),e⟩
theorem M9(h:Inv s)(id:Int)(ha: ∀a∈s.ah,a.id≠id)(hw:s.waits id=false):Inv {s with reqs:=dropFirst (·.id==id) s.reqs}:=by
 have hn:id∉s.ring.flatMap (·.ids):=fun e=>by rw[cS.2 e]at hw;cases hw
 refine⟨?_,fun a h1=> ?_,fun l hl=>⟨(h.ring l hl).1,fun i hi=> ?_⟩,h.fu,h.once,h.cn,h.wt⟩
 ·exact(((dt _ _).map _).map _).nodup h.rid
 ·obtain⟨x,hx,e⟩:=az.1 (h.bF a h1);exact az.2 ⟨x,mX hx (by rw[e];exact ha a h1),e⟩
 ·refine mX ((h.ring l hl).2 i hi) (fun e=>hn ?_);subst e;exact List.mem_flatMap.2 ⟨l,hl,hi⟩
theorem iF(h:Inv s)(id:Int):Inv (s.shut id):=by have h1:=jc s.ah.length s id;have h2:=yL s.ah.length s id (af _);exact M9 (rO (h1.inv h) id) id h2 (GR id)
theorem jC(h:Inv s)(id:Int)(f:Rq->Rq)(hf: ∀r,(f r).id=r.id∧(f r).ten=r.ten):Inv (s.bj id f):=by have e:(s.bj id f).ks=s.ks:=bn _ f _ (fun r=>by rw[(hf r).1,(hf r).2]) s.reqs;exact⟨e▸h.rid,e▸h.bF,by have:=h.ring;rw[<-e]at this;exact this,h.fu,h.once,h.cn,h.wt⟩
theorem tR(id:Int)(f:Rq->Rq)(hf: ∀r,(f r).id=r.id∧(f r).ten=r.ten):(s.bj id f).ks=s.ks:=bn _ f _ (fun r=>by rw[(hf r).1,(hf r).2]) s.reqs
theorem dn(h:Inv s)(id:Int)(counts:Bool):Inv (s.again id counts):=by
 unfold again;split
 ·exact h
 ·rename_i hw;have hw':s.waits id=false:=by
   cases e:s.waits id with
   |false=>rfl
   |true=>rw[e]at hw;simp at hw
  split
  ·exact h
  ·rename_i r hr;have hk:=lT (lZ hr).2.2;split
   ·exact iF (bM h _ _) _
   ·split
    ·refine je (jC h id (fun r=>{r with left:=r.left-1}) (fun _=>⟨rfl,rfl⟩)) ?_ hw' _;rw[tR id (fun r=>{r with left:=r.left-1}) (fun _=>⟨rfl,rfl⟩)];exact hk
    ·exact je h hk hw' _
theorem iz{α β:Type}(f:α->β): ∀(l:List α) (k:Nat),(l.eraseIdx k).map f=(l.map f).eraseIdx k
 | [],_=>rfl
 |_::_,0=>rfl
 |x::l,k+1=>by simp only[List.eraseIdx_cons_succ,List.map_cons,iz f l k]
theorem pV{r:List Ln}{k:Nat}{l:Ln}(h:r[k]?=some l):(r.flatMap (·.ids)).Perm (l.ids++(r.eraseIdx k).flatMap (·.ids)):=by
 induction r generalizing k with
 |nil=>simp at h
 |cons x r ih=>
  match k with
  |0=>simp at h;subst h;simp
  |k+1=>simp only[List.eraseIdx_cons_succ,List.flatMap_cons];have:=ih (by simpa using h);refine(this.append_left x.ids).trans ?_;rw[<-List.append_assoc,<-List.append_assoc];exact(List.perm_append_comm).append_right _
theorem kQ(h:Inv s)(c:Int)(ws:List Int)(kS:ws.Sublist s.wait)(k:Nat):Inv (s.give c ws k):=by
 unfold give;split
 ·exact h
 ·rename_i l hl;split
  ·exact h
  ·rename_i id hid;split
   ·exact h
   ·rename_i r hr;have IU:l∈s.ring:=cJ hl;obtain⟨cA,uw⟩:=h.ring l IU;have e:(aK (·.id==id) (fun r=>({r with n:=r.n+1}:Rq)) s.reqs).map (fun r=>(r.id,r.ten))=s.ks:=bn _ (fun r=>({r with n:=r.n+1}:Rq)) (fun r=>(r.id,r.ten)) (fun _=>rfl) s.reqs;have dy:=pV hl;have iL:=dy.nodup_iff.1 h.once;rw[List.nodup_append]at iL;have UG: ∀x∈rest l,x.ten=l.ten∧x.ids≠ []∧ ∀i∈x.ids,i∈l.ids:=by
     intro x hx;unfold rest at hx;split at hx
     ·rename_i a b t hh;obtain rfl:=b9.1 hx;exact⟨rfl,by simp,fun i hi=>by rw[hh];exact aV _ hi⟩
     ·cases hx
    have LW:(s.ring.eraseIdx k).map (·.ten)=(s.ring.map (·.ten)).eraseIdx k:=iz _ _ _;apply bM;refine⟨?_,fun a ha=> ?_,fun x hx=> ?_, ?_, ?_,h.cn,kS.nodup h.wt⟩
    ·unfold ks;dsimp only;rw[e];exact h.rid
    ·unfold ks;dsimp only;rw[e];rcases List.mem_append.1 ha with ha|ha
     ·exact h.bF a ha
     ·obtain rfl:=b9.1 ha;exact lT (lZ hr).2.2
    ·unfold ks;dsimp only;rw[e];rcases List.mem_append.1 hx with hx|hx
     ·exact h.ring x (List.mem_of_mem_eraseIdx hx)
     ·obtain⟨e1,e2,e3⟩:=UG x hx;exact⟨e2,fun i hi=>by rw[e1];exact uw i (e3 i hi)⟩
    ·show((s.ring.eraseIdx k++rest l).map (·.ten)).Nodup;rw[aD,List.nodup_append];have Gu:l.ten∉(s.ring.eraseIdx k).map (·.ten):=by
      rw[LW];intro hm;obtain⟨j,hj,hje⟩:=List.mem_eraseIdx_iff_getElem.1 hm;obtain⟨tE,hke⟩:=cz.1 hl;have:=(List.pairwise_iff_getElem.1 h.fu);have NL:k<(s.ring.map (·.ten)).length:=by simpa using tE
      have hkv:(s.ring.map (·.ten))[k]=l.ten:=by simp[hke]
      rcases Nat.lt_or_gt_of_ne hje.1 with aN|aN
      ·exact this j k hj NL aN (by rw[hje.2,hkv])
      ·exact this k j NL hj aN (by rw[hje.2,hkv])
     refine⟨LW▸((List.eraseIdx_sublist ..).nodup h.fu), ?_,fun a ha b hb eq=> ?_⟩
     ·unfold rest;split<;>simp
     ·obtain⟨x,hx,rfl⟩:=az.1 hb;rw[(UG x hx).1]at eq;exact Gu (eq▸ha)
    ·show((s.ring.eraseIdx k++rest l).flatMap (·.ids)).Nodup;rw[List.flatMap_append,List.nodup_append];have oq:((rest l).flatMap (·.ids)).Sublist l.ids:=by
      unfold rest;split
      ·rename_i a b t hh;simp[hh]
      ·exact List.nil_sublist _
     refine⟨iL.2.1,oq.nodup iL.1,fun a ha b hb eq=> ?_⟩;exact iL.2.2 b (oq.subset hb) a ha eq.symm
theorem yI: ∀(f:Nat) {s:St},Inv s->Inv (bR f s)
 |0,_,h=>h
 |f+1,s,h=>by
  unfold bR;split
  ·exact h
  ·rename_i c ws hw;split
   ·exact h
   ·exact yI f (kQ h c ws (by rw[hw];exact List.sublist_cons_self ..) _)
theorem nV(h:Inv s):Inv s.serve:=yI _ h
theorem gX: ∀(f:Nat) {s:St},Inv s->Inv (bV f s)
 |0,_,h=>h
 |f+1,s,h=>by
  unfold bV;split
  ·exact h
  ·split
   ·exact h
   ·exact gX f (dn (bg (bM h _ _) _) _ _)
theorem qa(h:Inv s)(a:At):Inv (s.bk a):=by
 unfold bk;split
 ·exact h
 ·rename_i r hr;split
  ·rename_i hc;have hw:s.waits a.id=false:=by
    cases e:s.waits a.id with
    |false=>rfl
    |true=>rw[e]at hc;simp at hc
   refine je (jC h a.id (fun r=>{r with hedged:=true}) (fun _=>⟨rfl,rfl⟩)) ?_ hw _;rw[tR a.id (fun r=>{r with hedged:=true}) (fun _=>⟨rfl,rfl⟩)];exact lT (lZ hr).2.2
  ·exact h
theorem CV(f:St->At->St)(hf: ∀s a,Inv s->Inv (f s a)): ∀(l:List At) {s:St},Inv s->Inv (l.foldl f s)
 | [],_,h=>h
 |a::l,s,h=>CV f hf l (hf s a h)
theorem jm(h:Inv s):Inv s.dE:=CV _ (fun _ a h=>qa h a) _ h
theorem kx(h:Inv s)(n:Int):Inv {s with now:=n}:=⟨h.rid,h.bF,h.ring,h.fu,h.once,h.cn,h.wt⟩
theorem QZ(h:Inv s):Inv s.tick:=nV (jm (gX _ (kx h _)))
theorem dO: ∀(f:Nat) (s:St) (i:Nat) (id c:Int),dp s (bp f s i id c) id
 |0,s,_,id,_=>dp.refl s id
 |f+1,s,i,id,c=>by
  unfold bp;split
  ·exact dp.refl s id
  ·split
   ·exact(Sn s id i).trans (dO f _ i id c)
   ·exact dO f _ _ id c
theorem cP: ∀(f:Nat) {s:St} (c:Int),Inv s->Inv (aM f s c)
 |0,_,_,h=>h
 |f+1,s,c,h=>by
  unfold aM;split
  ·exact h
  ·exact cP f c (iF ((dO _ _ _ _ _).inv h) _)
theorem fo: ∀(f:Nat) {s:St} (c:Int),Inv s->Inv (aP f s c)
 |0,_,_,h=>h
 |f+1,s,c,h=>by
  unfold aP;split
  ·exact h
  ·split
   ·exact h
   ·exact fo f c (dn (bg h _) _ _)
theorem JH(h:Inv s)(c:Int):Inv (s.close c):=by refine nV (fo _ _ (cP _ _ ?_));have h1:=jr h c;exact⟨h1.rid,h1.bF,h1.ring,h1.fu,h1.once,(List.filter_sublist.map _).nodup h1.cn,h1.wt⟩
theorem Hr(h:Inv s)(c:Int)(m:Mg):Inv (s.cf c m):=by
 unfold cf;split
 ·exact bM h _ _
 ·split
  ·exact bM h _ _
  ·rename_i h1 h2;have UC:m.id∉s.ks.map (·.1):=fun hk=>by
    obtain⟨r,hr,_⟩:=cu hk;rw[hr]at h1;simp at h1
   have hw:s.waits m.id=false:=by
    cases e:s.waits m.id with
    |false=>rfl
    |true=>rw[cS]at e;obtain⟨l,hl,hi⟩:=List.mem_flatMap.1 e;exact absurd (lT ((h.ring l hl).2 _ hi)) UC
   have uw:({s with reqs:=s.reqs++ [⟨m.id,c,m.ten,m.txt,0,s.c.re,false⟩]}:St).ks=s.ks++ [(m.id,m.ten)]:=by unfold ks;rw[aD];rfl
   have hi:Inv ({s with reqs:=s.reqs++ [⟨m.id,c,m.ten,m.txt,0,s.c.re,false⟩]}:St):=by
    refine⟨?_,fun a ha=> ?_,fun l hl=>⟨(h.ring l hl).1,fun i hi=> ?_⟩,h.fu,h.once,h.cn,h.wt⟩
    ·rw[uw,aD,List.nodup_append];refine⟨h.rid,by simp,fun a ha b hb e=>UC ?_⟩;simp at hb;subst hb;exact e▸ha
    ·rw[uw,aD];exact List.mem_append_left _ (h.bF a ha)
    ·rw[uw];exact List.mem_append_left _ ((h.ring l hl).2 i hi)
   refine je (bM hi _ _) ?_ hw _;rw[WU,uw,aD];exact List.mem_append_right _ (by simp)
theorem ku(h:Inv s)(c:Int)(m:Mg):Inv (s.message c m):=by
 unfold message;split
 ·exact Hr h c m
 split
 ·split
  ·exact bM h _ _
  ·split
   ·exact iF (bM h _ _) _
   ·exact bM h _ _
 split
 ·split
  ·exact h
  ·rename_i hw;have h1:=kN h c;dsimp only;split
   ·exact h1
   ·refine⟨h1.rid,h1.bF,h1.ring,h1.fu,h1.once,h1.cn, ?_⟩;have e:(s.conn c).wait=s.wait:=by unfold conn;split<;>rfl
    show((s.conn c).wait++ [c]).Nodup;rw[e,List.nodup_append];refine⟨h.wt,by simp,fun a ha b hb eq=>hw ?_⟩;simp at hb;subst hb;rw[List.any_eq_true];exact⟨a,ha,by simpa using eq⟩
 split
 ·refine qZ h _ (fun a ha=> ?_);obtain⟨x,hx,rfl⟩:=az.1 ha;split
  ·exact h.bF x hx
  ·exact h.bF x hx
 split
 ·split
  ·exact h
  ·split
   ·exact h
   ·exact iF (bg (bM h _ _) _) _
 split
 ·split
  ·exact h
  ·exact dn (bg h _) _ _
 split
 ·exact Ij (jr (kO (kN h c) (fun x=>{x with drains:=true}) (fun _=>rfl) _) c) c
 ·exact h
end St
end Mc
namespace Mc
open bG
structure Ok(s:St):Prop where
 gone: ∀x∈s.aq,x.drains=false->x.gone=false
 dr: ∀x∈s.aq,x.drains=true->(x.gone=true↔s.held x.n=0)∧x.n∉s.wait
 key:(s.ah.map fun a=>(a.id,a.n)).Nodup
 num: ∀a∈s.ah,∀r∈s.reqs,r.id=a.id->a.n<=r.n
 hd: ∀r∈s.reqs,r.hedged=false->s.count r.id<=1∧(0<s.count r.id->s.waits r.id=false)
def Busy(s:St)(P:Int->Prop):Prop:= ∀r∈s.reqs,¬P r.id->s.waits r.id=true∨0<s.count r.id
theorem bC{α κ:Type}{k:α->κ}{l:List α}(hn:(l.map k).Nodup){x y:α}(hx:x∈l)(hy:y∈l)(e:k x=k y):x=y:=by
 have h:=List.pairwise_iff_getElem.1 hn;obtain⟨i,hi,rfl⟩:=List.getElem_of_mem hx;obtain⟨j,hj,rfl⟩:=List.getElem_of_mem hy;rcases Nat.lt_trichotomy i j with h'|h'|h'
 ·exact absurd (by rw[List.getElem_map,List.getElem_map];exact e) (h i j (by simpa using hi) (by simpa using hj) h')
 ·subst h';rfl
 ·exact absurd (by rw[List.getElem_map,List.getElem_map];exact e.symm) (h j i (by simpa using hj) (by simpa using hi) h')
section keyed
variable{α κ:Type} [BEq κ] [LawfulBEq κ](k:α->κ)(c:κ)
theorem bK(f:α->α){l:List α}(hn:(l.map k).Nodup):aK (fun x=>k x==c) f l=l.map (fun x=>if k x==c then f x else x):=by
 induction l with
 |nil=>rfl
 |cons x l ih=>
  rw[List.map_cons,List.nodup_cons]at hn;unfold aK;rw[List.map_cons];by_cases e:(k x==c)=true
  ·rw[if_pos e,if_pos e];congr 1;have: ∀y∈l,(if k y==c then f y else y)=y:=fun y hy=>if_neg (fun e'=>hn.1 (az.2 ⟨y,hy,by rw[beq_iff_eq]at e e';rw[e,e']⟩));exact((bz this).trans (List.map_id _)).symm
  ·rw[if_neg e,if_neg e,ih hn.2]
theorem gT{l:List α}(hn:(l.map k).Nodup):dropFirst (fun x=>k x==c) l=l.filter (fun x=>k x !=c):=by
 induction l with
 |nil=>rfl
 |cons x l ih=>
  rw[List.map_cons,List.nodup_cons]at hn;unfold dropFirst;by_cases e:(k x==c)=true
  ·rw[if_pos e,List.filter_cons_of_neg (by simpa using e)];refine(List.filter_eq_self.2 fun y hy=> ?_).symm;have:k y≠c:=fun e'=>hn.1 (az.2 ⟨y,hy,by rw[beq_iff_eq]at e;rw[e,e']⟩);simpa using this
  ·rw[if_neg e,List.filter_cons_of_pos (by simpa using e),ih hn.2]
end keyed
theorem fP{α:Type}(p:α->Bool): ∀{l:List α} {i:Nat} {a:α},l[i]?=some a->(l.eraseIdx i).countP p+(if p a then 1 else 0)=l.countP p
 | [],i,a,h=>by simp at h
 |x::l,0,a,h=>by simp at h;subst h;simp[List.countP_cons]
 |x::l,i+1,a,h=>by
  have h':l[i]?=some a:=by simpa using h
  have:=fP p h';simp only[List.eraseIdx_cons_succ,List.countP_cons];omega
namespace St
variable{s:St}
theorem Gk{i:Nat}{a:At}(h:s.ah[i]?=some a)(c:Int):({s with ah:=s.ah.eraseIdx i}:St).held c+(if a.conn=c then 1 else 0)=s.held c:=by have:=fP (fun x:At=>x.conn==c) h;simpa[held]using this
theorem count_erase{i:Nat}{a:At}(h:s.ah[i]?=some a)(c:Int):({s with ah:=s.ah.eraseIdx i}:St).count c+(if a.id=c then 1 else 0)=s.count c:=by have:=fP (fun x:At=>x.id==c) h;simpa[count]using this
theorem nt(i id:Int)(f:Bool):(s.aX id f).waits i=true↔i=id∨s.waits i=true:=by
 rw[cS,cS];unfold aX;split
 ·rename_i ha;rw[<-(wx (id:=id) (first:=f) ha).mem_iff,List.mem_cons]
 ·simp[List.flatMap_append,or_comm]
theorem ml(i id:Int):(s.left id).waits i=true↔i≠id∧s.waits i=true:=by rw[cS,cS];unfold left;dsimp only;rw[tK,aL];simp[and_comm]
theorem gm{i:Int}:s.waits i=false↔ ¬s.waits i=true:=by simp
theorem iZ(c:Int):(s.conn c).ah=s.ah∧(s.conn c).reqs=s.reqs∧(s.conn c).ring=s.ring∧(s.conn c).wait=s.wait∧(s.conn c).out=s.out∧(s.conn c).c=s.c∧(s.conn c).now=s.now∧(s.conn c).begun=s.begun:=by unfold conn;split<;>exact⟨rfl,rfl,rfl,rfl,rfl,rfl,rfl,rfl⟩
theorem DB{c:Int}{x:Cn}(h:x∈(s.conn c).aq):x∈s.aq∨x=⟨c, [],false,false⟩:=by
 unfold conn at h;split at h
 ·exact .inl h
 ·rcases List.mem_append.1 h with h|h
  ·exact .inl h
  ·exact .inr (b9.1 h)
end St
namespace Ok
variable{s:St}
theorem say(h:Ok s)(c:Int)(t:Bs):Ok (s.say c t):=⟨h.gone,h.dr,h.key,h.num,h.hd⟩
theorem told(h:Ok s):Ok s.told:=⟨h.gone,h.dr,h.key,h.num,h.hd⟩
theorem now(h:Ok s)(n:Int):Ok {s with now:=n}:=⟨h.gone,h.dr,h.key,h.num,h.hd⟩
theorem conn(h:Ok s)(c:Int):Ok (s.conn c):=by
 obtain⟨e1,e2,e3,e4,_⟩:=St.iZ (s:=s) c;refine⟨fun x hx hd=> ?_,fun x hx hd=> ?_,by rw[e1];exact h.key,by rw[e1,e2];exact h.num, ?_⟩
 ·rcases St.DB hx with hx|rfl
  ·exact h.gone x hx hd
  ·rfl
 ·unfold St.held;rw[e1,e4];rcases St.DB hx with hx|rfl
  ·exact h.dr x hx hd
  ·cases hd
 ·unfold St.count St.waits;rw[e1,e2,e3];exact h.hd
theorem fp(hn:(s.aq.map (·.n)).Nodup)(c:Int)(gone: ∀x∈s.aq,x.drains=false->x.gone=false)(dr: ∀x∈s.aq,x.drains=true->(x.n≠c->(x.gone=true↔s.held x.n=0))∧(x.n=c->x.gone=true->s.held x.n=0)∧x.n∉s.wait)(key:(s.ah.map fun a=>(a.id,a.n)).Nodup)(num: ∀a∈s.ah,∀r∈s.reqs,r.id=a.id->a.n<=r.n)(hd: ∀r∈s.reqs,r.hedged=false->s.count r.id<=1∧(0<s.count r.id->s.waits r.id=false)):Ok (s.fp c):=by
 unfold St.fp;split
 ·rename_i hif;rw[bm,List.any_eq_true]at hif;obtain⟨⟨y,hy,NY⟩,h0⟩:=hif;simp only[bm,beq_iff_eq,Bool.not_eq_true']at NY;have Ey:s.held c=0:=by simpa using h0
  refine say (s:={s with aq:=aK (fun x=>x.n==c) (fun x=>{x with gone:=true}) s.aq}) ⟨fun x hx kI=> ?_,fun x hx kI=> ?_,key,num,hd⟩ _ _
  ·dsimp only at hx;rw[bK (fun x:Cn=>x.n) c (fun x=>{x with gone:=true}) hn]at hx;obtain⟨z,hz,rfl⟩:=az.1 hx;by_cases e:z.n=c
   ·obtain rfl:=bC hn hz hy (e.trans NY.1.1.symm);simp[e,NY.1.2]at kI
   ·simp only[beq_iff_eq,if_neg e]at kI⊢;exact gone z hz kI
  ·dsimp only at hx;rw[bK (fun x:Cn=>x.n) c (fun x=>{x with gone:=true}) hn]at hx;obtain⟨z,hz,rfl⟩:=az.1 hx;show(_↔s.held _=0)∧_∉s.wait;by_cases e:z.n=c
   ·simp only[beq_iff_eq,if_pos e]at kI⊢;exact⟨by rw[e,Ey];simp,(dr z hz kI).2.2⟩
   ·simp only[beq_iff_eq,if_neg e]at kI⊢;exact⟨(dr z hz kI).1 e,(dr z hz kI).2.2⟩
 ·rename_i hif;refine⟨gone,fun x hx kI=> ?_,key,num,hd⟩;obtain⟨h1,h2,h3⟩:=dr x hx kI;refine⟨?_,h3⟩;by_cases e:x.n=c
  ·refine⟨h2 e,fun h0=> ?_⟩;cases hg:x.gone with
   |true=>rfl
   |false=>exfalso;apply hif;rw[bm,List.any_eq_true];exact⟨⟨x,hx,by simp[e,kI,hg]⟩,by rw[<-e];simpa using h0⟩
  ·exact h1 e
theorem aZ(h:Ok s)(hi:Inv s)(i:Nat):Ok (s.aZ i):=by
 unfold St.aZ;split
 ·rename_i a ha;refine fp (s:={s with ah:=s.ah.eraseIdx i}) hi.cn a.conn h.gone (fun x hx kI=> ?_) ?_ (fun b hb=>h.num b (List.mem_of_mem_eraseIdx hb)) (fun r hr rL=> ?_)
  ·obtain⟨h1,h2⟩:=h.dr x hx kI;have he:=St.Gk ha x.n;refine⟨fun cA=> ?_,fun e hg=> ?_,h2⟩
   ·rw[if_neg (Ne.symm cA),Nat.add_zero]at he;rw[he];exact h1
   ·have:=h1.1 hg;omega
  ·show((s.ah.eraseIdx i).map fun a=>(a.id,a.n)).Nodup;exact((List.eraseIdx_sublist ..).map _).nodup h.key
  ·obtain⟨h1,h2⟩:=h.hd r hr rL;have he:=St.count_erase ha r.id;refine⟨by omega,fun h0=>h2 (by omega)⟩
 ·exact h
theorem idle(h:Ok s)(c:Int):Ok (s.idle c):=⟨h.gone,fun x hx kI=>⟨(h.dr x hx kI).1,fun hm=>(h.dr x hx kI).2 (aL.1 hm).1⟩,h.key,h.num,h.hd⟩
theorem aX(h:Ok s)(id:Int)(f:Bool)(hc: ∀r∈s.reqs,r.id=id->r.hedged=false->s.count id=0):Ok (s.aX id f):=by
 obtain⟨_,e1,e2,e4,e5,_⟩:=St.fW (s:=s) id f;refine⟨by rw[e5];exact h.gone, ?_,by rw[e1];exact h.key,by rw[e1,e2];exact h.num,fun r hr rL=> ?_⟩
 ·unfold St.held;rw[e1,e4,e5];exact h.dr
 ·rw[e2]at hr;have ec:(s.aX id f).count r.id=s.count r.id:=by unfold St.count;rw[e1]
  obtain⟨h1,h2⟩:=h.hd r hr rL;rw[ec];refine⟨h1,fun h0=> ?_⟩;rw[St.gm,St.nt];rintro(e|e)
  ·have:=hc r hr e rL;rw[e]at h0;omega
  ·rw[h2 h0]at e;cases e
theorem left(h:Ok s)(id:Int):Ok (s.left id):=by refine⟨h.gone,h.dr,h.key,h.num,fun r hr rL=>⟨(h.hd r hr rL).1,fun h0=> ?_⟩⟩;rw[St.gm,St.ml];rintro⟨_,e⟩;rw[(h.hd r hr rL).2 h0]at e;cases e
theorem reqs(h:Ok s)(l:List Rq)(hl: ∀r∈l,r∈s.reqs):Ok {s with reqs:=l}:=⟨h.gone,h.dr,h.key,fun a ha r hr=>h.num a ha r (hl r hr),fun r hr=>h.hd r (hl r hr)⟩
theorem bj(h:Ok s)(id:Int)(f:Rq->Rq)(h1: ∀r,(f r).id=r.id)(h2: ∀r,r.n<=(f r).n)(h3: ∀r,(f r).hedged=false->r.hedged=false):Ok (s.bj id f):=by
 refine⟨h.gone,h.dr,h.key,fun a ha r hr e=> ?_,fun r hr rL=> ?_⟩
 ·rcases bJ hr with hr|⟨y,hy,_,rfl⟩
  ·exact h.num a ha r hr e
  ·exact Int.le_trans (h.num a ha y hy (by rw[<-h1];exact e)) (h2 y)
 ·rcases bJ hr with hr|⟨y,hy,_,rfl⟩
  ·exact h.hd r hr rL
  ·rw[h1];exact h.hd y hy (h3 y rL)
theorem stops: ∀(f:Nat) {s:St} (id:Int),Ok s->Inv s->Ok (St.stops f s id)
 |0,_,_,h,_=>h
 |f+1,s,id,h,hi=>by
  unfold St.stops;split
  ·exact h
  ·split
   ·exact h
   ·exact stops f id ((h.say _ _).aZ (St.bM hi _ _) _) (St.bg (St.bM hi _ _) _)
theorem shut(h:Ok s)(hi:Inv s)(id:Int):Ok (s.shut id):=
 ((stops s.ah.length id h hi).left id).reqs _ (fun _ hr=>(dt _ _).subset hr)
theorem again(h:Ok s)(hi:Inv s)(id:Int)(counts:Bool):Ok (s.again id counts):=by
 unfold St.again;split
 ·exact h
 ·rename_i hw;have hc:s.count id=0:=by
   rw[Bool.or_eq_true]at hw;have: ¬(decide (0<s.count id)=true):=fun e=>hw (.inr e);simpa using this
  split
  ·exact h
  ·split
   ·exact(h.say _ _).shut (St.bM hi _ _) _
   ·split
    ·exact(h.bj id (fun r=>{r with left:=r.left-1}) (fun _=>rfl) (fun _=>Int.le_refl _) (fun _ h=>h)).aX _ _ (fun _ _ _ _=>hc)
    ·exact h.aX _ _ (fun _ _ _ _=>hc)
end Ok
end Mc
namespace Mc
open bG
namespace St
variable{s:St}
theorem tQ(hi:Inv s){r:Rq}(h:r∈s.reqs):s.req r.id=some r:=by obtain⟨r',h1,h2,h3⟩:=cu (s:=s) (i:=r.id) (by unfold ks;rw[aB];exact az.2 ⟨r,h,rfl⟩);have hn:=hi.rid;unfold ks at hn;rw[aB]at hn;rw[h1,bC (k:=fun r:Rq=>r.id) hn h2 h h3]
theorem zX{l:Ln}{k:Nat}{id:Int}(hl:s.ring[k]?=some l)(hid:l.ids.head?=some id):(s.ring.flatMap (·.ids)).Perm (id::(s.ring.eraseIdx k++rest l).flatMap (·.ids)):=by
 refine(pV hl).trans ?_;rw[List.flatMap_append];have:l.ids=id::(rest l).flatMap (·.ids):=by
  unfold rest;split
  ·rename_i a b t hh;rw[hh]at hid⊢;simp at hid⊢;exact hid
  ·rename_i hh
   match hm:l.ids with
   | []=>rw[hm]at hid;cases hid
   | [a]=>rw[hm]at hid;simp at hid;subst hid;rfl
   |a::b::t=>exact absurd hm (hh a b t)
 rw[this];exact(List.perm_append_comm.cons id)
def giving(s:St)(c:Int)(ws:List Int)(k:Nat)(l:Ln)(id:Int)(r:Rq):St:=
 {s with wait:=ws,ring:=s.ring.eraseIdx k++rest l,reqs:=aK (·.id==id) (fun r=>{r with n:=r.n+1}) s.reqs,ah:=s.ah++ [⟨id,r.n+1,c,s.now,s.now+s.c.le⟩],begun:=s.begun+1}
theorem vt{c:Int}{ws:List Int}{k:Nat}{l:Ln}{id:Int}{r:Rq}(hl:s.ring[k]?=some l)(hid:l.ids.head?=some id)(hr:s.req id=some r):s.give c ws k=(s.giving c ws k l id r).say c (runText r (r.n+1)):=by unfold give;rw[hl];dsimp only;rw[hid];dsimp only;rw[hr];rfl
theorem yE(hi:Inv s){k:Nat}{l:Ln}(hl:s.ring[k]?=some l): ∃id r,l.ids.head?=some id∧s.req id=some r∧r.ten=l.ten:=by
 obtain⟨h1,h2⟩:=hi.ring l (cJ hl)
 match hm:l.ids with
 | []=>exact absurd hm h1
 |id::t=>have hk:=h2 id (by rw[hm];exact bY ..);obtain⟨r,hr,EB,e⟩:=cu (lT hk);refine⟨id,r,rfl,hr, ?_⟩;have:=yM hi hk;unfold ten at this;rw[hr]at this;exact this
end St
namespace Ok
variable{s:St}
theorem give(h:Ok s)(hi:Inv s)(c:Int)(ws:List Int)(k:Nat)(hw:s.wait=c::ws):Ok (s.give c ws k):=by
 cases hl:s.ring[k]? with
 |none=>unfold St.give;rw[hl];exact h
 |some l=>
  obtain⟨id,r,hid,hr,_⟩:=St.yE hi hl;rw[St.vt hl hid hr];obtain⟨IY,om,_⟩:=St.lZ hr;have hp:=St.zX hl hid;have iL:=hp.nodup_iff.1 hi.once;have aa5:s.waits id=true:=by rw[St.cS,hp.mem_iff];exact bY ..
  refine say (s:=s.giving c ws k l id r) ⟨h.gone,fun x hx kI=> ?_, ?_,fun a ha q hq e=> ?_,fun q hq Kt=> ?_⟩ _ _
  ·obtain⟨h1,h2⟩:=h.dr x hx kI;rw[hw]at h2;have cA:x.n≠c:=fun e=>h2 (by rw[e];exact bY ..);refine⟨?_,fun hm=>h2 (aV _ hm)⟩;have:(s.giving c ws k l id r).held x.n=s.held x.n:=by
    unfold St.held St.giving;rw[List.countP_append];simp[Ne.symm cA]
   rw[this];exact h1
  ·show((s.ah++ [_]).map fun a:At=>(a.id,a.n)).Nodup;rw[aD,List.nodup_append];refine⟨h.key,by simp,fun a ha b hb e=> ?_⟩;simp at hb;subst hb;obtain⟨x,hx,rfl⟩:=az.1 ha;injection e with e1 e2
   have:=h.num x hx r IY (by rw[om,e1]);omega
  ·unfold St.giving at ha hq;dsimp only at ha hq;rcases bJ hq with uZ|⟨y,hy,ba,rfl⟩
   ·rcases List.mem_append.1 ha with ha|ha
    ·exact h.num a ha q uZ e
    ·obtain rfl:=b9.1 ha;dsimp only at e⊢;exfalso;have hn:=hi.rid;unfold St.ks at hn;rw[aB]at hn;rw[bK (fun r:Rq=>r.id) id _ hn]at hq;obtain⟨z,hz,ez⟩:=az.1 hq;by_cases e3:z.id=id
     ·simp only[e3,beq_self_eq_true,if_true]at ez;have e4:z=q:=bC (k:=fun r:Rq=>r.id) hn hz uZ (by rw[e3,e]);subst e4;have:=congrArg Rq.n ez;simp at this;omega
     ·simp only[beq_iff_eq,if_neg e3]at ez;subst ez;exact e3 e
   ·have ey:y.id=id:=by simpa using ba
    rcases List.mem_append.1 ha with ha|ha
    ·have:=h.num a ha y hy e;show a.n<=y.n+1;omega
    ·obtain rfl:=b9.1 ha;have hn:=hi.rid;unfold St.ks at hn;rw[aB]at hn;obtain rfl:y=r:=bC (k:=fun r:Rq=>r.id) hn hy IY (by rw[ey,om]);exact Int.le_refl _
  ·have hc: ∀i,(s.giving c ws k l id r).count i=s.count i+if id=i then 1 else 0:=by
    intro i;unfold St.count St.giving;rw[List.countP_append];simp
   obtain⟨y,hy,ey,hh⟩: ∃y∈s.reqs,y.id=q.id∧y.hedged=false:=by
    unfold St.giving at hq;dsimp only at hq;rcases bJ hq with hq|⟨y,hy,_,rfl⟩
    ·exact⟨q,hq,rfl,Kt⟩
    ·exact⟨y,hy,rfl,Kt⟩
   obtain⟨h1,h2⟩:=h.hd y hy hh;rw[hc,<-ey];by_cases e:id=y.id
   ·rw[if_pos e];have h0:s.count y.id=0:=by
     rcases Nat.eq_zero_or_pos (s.count y.id)with h|h
     ·exact h
     ·have:=h2 h;rw[<-e,aa5]at this;cases this
    refine⟨by omega,fun _=> ?_⟩;rw[St.gm,St.cS];rw[<-e];exact(List.nodup_cons.1 iL).1
   ·rw[if_neg e];refine⟨h1,fun h0=> ?_⟩;have:=h2 h0;rw[St.gm,St.cS]at this⊢;intro hm;exact this (hp.mem_iff.2 (aV _ hm))
theorem bR: ∀(f:Nat) {s:St},Ok s->Inv s->Ok (St.bR f s)
 |0,_,h,_=>h
 |f+1,s,h,hi=>by
  unfold St.bR;split
  ·exact h
  ·rename_i c ws hw;split
   ·exact h
   ·exact bR f (h.give hi c ws _ hw) (St.kQ hi c ws (by rw[hw];exact List.sublist_cons_self ..) _)
theorem serve(h:Ok s)(hi:Inv s):Ok s.serve:=bR _ h hi
theorem bV: ∀(f:Nat) {s:St},Ok s->Inv s->Ok (St.bV f s)
 |0,_,h,_=>h
 |f+1,s,h,hi=>by
  unfold St.bV;split
  ·exact h
  ·split
   ·exact h
   ·have h1:=St.bM hi;exact bV f (((h.say _ _).aZ (h1 _ _) _).again (St.bg (h1 _ _) _) _ _) (St.dn (St.bg (h1 _ _) _) _ _)
theorem bk(h:Ok s)(hi:Inv s)(a:At):Ok (s.bk a):=by
 unfold St.bk;split
 ·exact h
 ·rename_i r hr;split
  ·refine(h.bj a.id (fun r=>{r with hedged:=true}) (fun _=>rfl) (fun _=>Int.le_refl _) (fun _ h=>by cases h)).aX _ _ (fun q hq e hh=> ?_);exfalso;have hn:=hi.rid;unfold St.ks at hn;rw[aB]at hn;unfold St.bj at hq;dsimp only at hq;rw[bK (fun r:Rq=>r.id) a.id _ hn]at hq;obtain⟨z,hz,ez⟩:=az.1 hq;by_cases e3:z.id=a.id
   ·simp only[e3,beq_self_eq_true,if_true]at ez;subst ez;cases hh
   ·simp only[beq_iff_eq,if_neg e3]at ez;subst ez;exact e3 e
  ·exact h
theorem fold: ∀(l:List At) {s:St},Ok s->Inv s->Ok (l.foldl St.bk s)
 | [],_,h,_=>h
 |a::l,s,h,hi=>by rw[List.foldl_cons];exact fold l (h.bk hi a) (St.qa hi a)
theorem dE(h:Ok s)(hi:Inv s):Ok s.dE:=fold _ h hi
theorem tick(h:Ok s)(hi:Inv s):Ok s.tick:=
 ((bV _ (h.now _) (St.kx hi _)).dE (St.gX _ (St.kx hi _))).serve (St.jm (St.gX _ (St.kx hi _)))
theorem bp: ∀(f:Nat) {s:St} (i:Nat) (id c:Int),Ok s->Inv s->Ok (St.bp f s i id c)
 |0,_,_,_,_,h,_=>h
 |f+1,s,i,id,c,h,hi=>by
  unfold St.bp;split
  ·exact h
  ·split
   ·exact bp f _ _ _ (h.aZ hi _) (St.bg hi _)
   ·exact bp f _ _ _ h hi
theorem aM: ∀(f:Nat) {s:St} (c:Int),Ok s->Inv s->Ok (St.aM f s c)
 |0,_,_,h,_=>h
 |f+1,s,c,h,hi=>by
  unfold St.aM;split
  ·exact h
  ·have zu:=(St.dO s.ah.length s 0 (by assumption) c).inv hi;exact aM f c ((bp _ _ _ _ h hi).shut zu _) (St.iF zu _)
theorem aP: ∀(f:Nat) {s:St} (c:Int),Ok s->Inv s->Ok (St.aP f s c)
 |0,_,_,h,_=>h
 |f+1,s,c,h,hi=>by
  unfold St.aP;split
  ·exact h
  ·split
   ·exact h
   ·exact aP f c ((h.aZ hi _).again (St.bg hi _) _ _) (St.dn (St.bg hi _) _ _)
theorem less(h:Ok s)(p:Cn->Bool):Ok {s with aq:=s.aq.filter p}:=⟨fun x hx=>h.gone x (aL.1 hx).1,fun x hx=>h.dr x (aL.1 hx).1,h.key,h.num,h.hd⟩
theorem close(h:Ok s)(hi:Inv s)(c:Int):Ok (s.close c):=by have h1:=St.jr hi c;have y7:Inv ({s.idle c with aq:=(s.idle c).aq.filter (·.n !=c)}:St):=⟨h1.rid,h1.bF,h1.ring,h1.fu,h1.once,(List.filter_sublist.map _).nodup h1.cn,h1.wt⟩;have h2:=(h.idle c).less (·.n !=c);exact(aP _ _ (aM _ _ h2 y7) (St.cP _ _ y7)).serve (St.fo _ _ (St.cP _ _ y7))
