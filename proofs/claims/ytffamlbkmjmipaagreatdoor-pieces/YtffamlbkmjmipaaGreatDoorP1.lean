import Derived.Test.YtffamlbkmjmipaaGreatDoorC15
set_option maxHeartbeats 8000000
set_option maxRecDepth 100000
namespace Go.Proofs.YtffamlbkmjmipaaGreatDoor
namespace Mc
open bA
structure EO where
 o:List (Int×Bs)
 f:Cn->Cn
 n: ∀x,(f x).n=x.n
 drains: ∀x,(f x).drains=x.drains
 gone: ∀x,(f x).gone=x.gone
 Rc: ∀x,f {x with gone:=true}={f x with gone:=true}
 Rb: ∀x,f {x with drains:=true}={f x with drains:=true}
namespace St
variable{s:St}(k:EO)
def sk(k:EO)(s:St):St:={s with out:=k.o++s.out,ak:=s.ak.map k.f}
theorem bj{p:Cn->Bool}{g:Cn->Cn}{f:Cn->Cn}(hp: ∀x,p (f x)=p x)(hg: ∀x,f (g x)=g (f x)): ∀l:List Cn,aA p g (l.map f)=(aA p g l).map f
 | []=>rfl
 |x::l=>by
  rw[List.map_cons];unfold aA;rw[hp];split
  ·rw[List.map_cons,hg]
  ·rw[List.map_cons,bj hp hg l]
theorem ib(c:Int)(t:Bs):(sk k s).say c t=sk k (s.say c t):=by unfold say sk;dsimp only;rw[List.append_assoc]
theorem Le(p q:Cn->Bool)(h: ∀x,p (k.f x)=q x):(s.ak.map k.f).any p=s.ak.any q:=by rw[List.any_map];congr 1;funext x;exact h x
theorem Oj(c:Int):(sk k s).held c=s.held c:=rfl
theorem ux(i:Int):(sk k s).req i=s.req i:=rfl
theorem Re(i:Int):(sk k s).ten i=s.ten i:=rfl
theorem Lf(c:Int):(sk k s).dR c=sk k (s.dR c):=by
 unfold dR;have h1:(sk k s).ak.any (fun x=>x.n==c &&x.drains && !x.gone)=s.ak.any (fun x=>x.n==c &&x.drains && !x.gone):=Le k _ _ (fun x=>by simp only[k.n,k.drains,k.gone]);rw[h1,Oj];split
 ·have h2:aA (fun x:Cn=>x.n==c) (fun x=>{x with gone:=true}) (sk k s).ak=(aA (fun x=>x.n==c) (fun x=>{x with gone:=true}) s.ak).map k.f:=bj (fun x=>by rw[k.n]) (fun x=>k.Rc x) s.ak;rw[h2];exact ib k (s:={s with ak:=aA (fun x=>x.n==c) (fun x=>{x with gone:=true}) s.ak}) c _
 ·rfl
theorem yf(i:Nat):(sk k s).aU i=sk k (s.aU i):=by
 unfold aU;rw[show(sk k s).ag[i]?=s.ag[i]? from rfl];cases s.ag[i]? with
 |some a=>exact Lf k (s:={s with ag:=s.ag.eraseIdx i}) _
 |none=>rfl
theorem A9: ∀(f:Nat) (s:St) (id:Int),stops f (sk k s) id=sk k (stops f s id)
 |0,_,_=>rfl
 |f+1,s,id=>by
  unfold stops;rw[show(sk k s).ag=s.ag from rfl];cases s.ag.findIdx? (·.id==id)with
  |none=>rfl
  |some i=>
   dsimp only;cases s.ag[i]? with
   |none=>rfl
   |some a=>dsimp only;rw[ib,yf,A9 f]
theorem yh(id:Int):(sk k s).shut id=sk k (s.shut id):=by unfold shut;dsimp only;have e:(sk k s).ag.length=s.ag.length:=rfl;rw[e,A9];rfl
theorem uy(id:Int)(b:Bool):(sk k s).aT id b=sk k (s.aT id b):=by unfold aT;rw[Re,show(sk k s).ring=s.ring from rfl];cases s.ring.any (·.ten==s.ten id)<;>rfl
theorem GC(id:Int)(g:Rq->Rq):(sk k s).bg id g=sk k (s.bg id g):=rfl
theorem Ld(id:Int)(b:Bool):(sk k s).again id b=sk k (s.again id b):=by
 unfold again;have e1:(sk k s).waits id=s.waits id:=rfl;have e2:(sk k s).count id=s.count id:=rfl;rw[e1,e2,ux];cases s.waits id||decide (0<s.count id)with
 |true=>rfl
 |false=>
  cases s.req id with
  |none=>rfl
  |some r=>
   dsimp only;cases b &&r.left==0 with
   |true=>exact(congrArg (fun x:St=>x.shut id) (ib k r.conn _)).trans (yh k id)
   |false=>
    cases b with
    |true=>exact(congrArg (fun x:St=>x.aT id true) (GC k id _)).trans (uy k id true)
    |false=>exact uy k id true
theorem Oi(c:Int)(ws:List Int)(j:Nat):(sk k s).give c ws j=sk k (s.give c ws j):=by
 unfold give;rw[show(sk k s).ring=s.ring from rfl];cases s.ring[j]? with
 |none=>rfl
 |some l=>
  dsimp only;cases l.ids.head? with
  |none=>rfl
  |some id=>
   dsimp only;rw[ux];cases s.req id with
   |none=>rfl
   |some r=>exact ib k (s:=({s with wait:=ws,ring:=s.ring.eraseIdx j++rest l,reqs:=aA (·.id==id) (fun r=>{r with n:=r.n+1}) s.reqs,ag:=s.ag++ [⟨id,r.n+1,c,s.now,s.now+s.c.le⟩],begun:=s.begun+1}:St)) c _
theorem wO: ∀(f:Nat) (s:St),bK f (sk k s)=sk k (bK f s)
 |0,_=>rfl
 |f+1,s=>by
  unfold bK;rw[show(sk k s).wait=s.wait from rfl,show(sk k s).ring.findIdx? (fun l=>((sk k s).runs l.ten:Int)<(sk k s).c.ca)=s.ring.findIdx? (fun l=>(s.runs l.ten:Int)<s.c.ca)from rfl];cases s.wait with
  |nil=>rfl
  |cons c ws=>
   dsimp only;cases s.ring.findIdx? (fun l=>(s.runs l.ten:Int)<s.c.ca)with
   |none=>rfl
   |some j=>dsimp only;rw[Oi,wO f]
theorem Lg:(sk k s).serve=sk k s.serve:=wO k _ s
theorem GD(c:Int)(m:Mg):(sk k s).bT c m=sk k (s.bT c m):=by
 unfold bT;rw[ux,show(sk k s).ring.any (fun l=>l.ten==m.ten &&decide ((sk k s).c.bo<=(l.ids.length:Int)))=s.ring.any (fun l=>l.ten==m.ten &&decide (s.c.bo<=(l.ids.length:Int)))from rfl];cases(s.req m.id).isSome with
 |true=>exact ib k c _
 |false=>
  cases s.ring.any (fun l=>l.ten==m.ten &&decide (s.c.bo<=(l.ids.length:Int)))with
  |true=>exact ib k c _
  |false=>have h:=ib k (s:=({s with reqs:=s.reqs++ [⟨m.id,c,m.ten,m.txt,0,s.c.re,false⟩]}:St)) c ([97,99,99,32]++a7 m.id);show((sk k ({s with reqs:=s.reqs++ [⟨m.id,c,m.ten,m.txt,0,s.c.re,false⟩]}:St)).say c _).aT m.id false=_;rw[h,uy];rfl
theorem eH{c:Int}(h:s.ak.any (·.n==c)=true):s.conn c=s:=by unfold conn;rw[if_pos h]
theorem yg{c:Int}(h:s.ak.any (·.n==c)=true):(sk k s).ak.any (·.n==c)=true:=by rw[show(sk k s).ak.any (·.n==c)=s.ak.any (·.n==c)from Le k _ _ (fun x=>by simp only[k.n])];exact h
theorem td{p:Cn->Bool}{f:Cn->Cn}(hp: ∀x,p (f x)=p x): ∀l:List Cn,(l.map f).find? p=(l.find? p).map f
 | []=>rfl
 |x::l=>by
  rw[List.map_cons,List.find?_cons,List.find?_cons,hp];split
  ·rfl
  ·exact td hp l
theorem Gz(c:Int):(sk k s).drains c=s.drains c:=by
 unfold drains;show(match (s.ak.map k.f).find? (·.n==c)with|some x=>x.drains|none=>false)=_;rw[td (fun x=>by simp only[k.n])];cases s.ak.find? (·.n==c)with
 |none=>rfl
 |some x=>exact k.drains x
theorem C5{c:Int}(h:s.ak.any (·.n==c)=true)(m:Mg):(sk k s).message c m=sk k (s.message c m):=by
 have h':=yg k h;unfold message;by_cases h1:m.kind=fQ
 ·rw[if_pos h1,if_pos h1];exact GD k c m
 rw[if_neg h1,if_neg h1];by_cases h2:m.kind=gF
 ·rw[if_pos h2,if_pos h2,ux];cases s.req m.id with
  |none=>exact ib k c _
  |some r=>
   dsimp only;cases r.conn==c with
   |true=>exact(congrArg (fun x:St=>x.shut m.id) (ib k c _)).trans (yh k m.id)
   |false=>exact ib k c _
 rw[if_neg h2,if_neg h2];by_cases h3:m.kind=dI
 ·rw[if_pos h3,if_pos h3,show(sk k s).wait=s.wait from rfl];cases s.wait.any (· ==c)with
  |true=>rfl
  |false=>dsimp only;rw[eH h,eH h',Gz];cases s.drains c<;>rfl
 rw[if_neg h3,if_neg h3];by_cases h4:m.kind=dH
 ·rw[if_pos h4,if_pos h4];rfl
 rw[if_neg h4,if_neg h4,show(sk k s).mine c m.id m.bB=s.mine c m.id m.bB from rfl,ux];by_cases h5:m.kind=di
 ·rw[if_pos h5,if_pos h5];cases s.mine c m.id m.bB with
  |none=>rfl
  |some i=>
   dsimp only;cases s.req m.id with
   |none=>rfl
   |some r=>dsimp only;rw[ib,yf,yh]
 rw[if_neg h5,if_neg h5];by_cases h6:m.kind=kFail
 ·rw[if_pos h6,if_pos h6];cases s.mine c m.id m.bB with
  |none=>rfl
  |some i=>dsimp only;rw[yf,Ld]
 rw[if_neg h6,if_neg h6];by_cases h7:m.kind=cR
 ·rw[if_pos h7,if_pos h7];dsimp only;rw[eH h,eH h'];have h2:aA (fun x:Cn=>x.n==c) (fun x=>{x with drains:=true}) (sk k s).ak=(aA (fun x=>x.n==c) (fun x=>{x with drains:=true}) s.ak).map k.f:=bj (fun x=>by rw[k.n]) (fun x=>k.Rb x) s.ak;rw[h2];exact Lf k (s:=({s with ak:=aA (fun x=>x.n==c) (fun x=>{x with drains:=true}) s.ak}:St).idle c) c
 ·rw[if_neg h7,if_neg h7]
end St
end Mc
section
open Go.RowKit aD
section
variable{P:Program}(w:World)
theorem run_append_nil(t ty e:TypeId)(i:TypeInfo)(ht:P.underlying t=some (.slice e))(hi:P.info? e=some i)(ao:Option Addr)(n cap:Nat)(hc:n<=cap)(ha:ao=none->n=0∧cap=0):(Builtin.append_ #[t,t] ty #[.slice ao n cap, .slice none 0 0]).run P w= .ok (.slice ao n cap) w:=by
 cases ao with
 |none=>obtain⟨rfl,rfl⟩:=ha rfl;simp[Builtin.append_,run_underlying ht,sizeOf,typeInfo,hi,Builtin.lenOf,Builtin.firstCells]
 |some a=>simp[Builtin.append_,run_underlying ht,sizeOf,typeInfo,hi,Builtin.lenOf,hc,Builtin.firstCells,storeCells]
theorem uF{o:Oper}{a:Act}{K:Act->World->Prop}{Q:Exit->Act->World->Prop}(s x:Operand)(t:TypeId)(ho:o.op= .call {callee:= .builtin .append,args:= #[s,x],argTypes:= #[t,t]})(e:TypeId)(i:TypeInfo)(z:Value)(size bytes:Nat)(ht:P.underlying t=some (.slice e))(hi:P.info? e=some i)(hz:i.zero=some z)(gy:i.size=size)(tC:i.bytes=bytes)(JV:z.cells.size=size)(cY:0<size){F G:Ft}(v:Value)(n:Nat)(xs:List Value)(hs:a.eval s=v)(cQ:(rowA e size v n xs).holds w F)(v2:Value)(m:Nat)(ys:List Value)(hx:a.eval x=v2)(tI:(rowA e size v2 m ys).holds w G)(h1: ∀u∈ys,u.oneCell'=true)(yx:n+m<=maxLen)(eU:(n+m)*bytes<=140737488355328)(h: ∀eK nT w',Goes (rowA e size (.slice eK (n+m) nT) (n+m) (xs++ys)) w F w'->K (a.put o.dst (.slice eK (n+m) nT)) w'):o.wp P a w K Q:=by
 rcases tI.2 with⟨h2,h3,_⟩|⟨g,off,cap,cur,rfl,_,_,_,_,_,_⟩
 ·have hm:m=0:=h3;subst hm;have hy:ys= []:=List.length_eq_zero_iff.1 (by rw[tI.1,Nat.zero_mul]);subst hy;obtain⟨ao,cap,rfl,hc,_,_,_⟩:=bS cQ;have ha:ao=none->n=0∧cap=0:=by
   intro hn;subst hn;rcases cQ.2 with⟨h4,h5,_⟩|⟨g,off,bO,cur,h4,_⟩
   ·cases h4;exact⟨h5,rfl⟩
   ·cases h4
  have hr:=run_append_nil (P:=P) w t o.type e i ht hi ao n cap hc ha;unfold Oper.wp execOp;simp only[ho,resolve,invoke,builtin,Sem.run_bind,Sem.run_pure,Result.andThen_ok,List.map_toArray,List.map_cons,List.map_nil,hs,hx,h2,hr];have h6:=h ao cap w;rw[Nat.add_zero,List.append_nil]at h6;exact h6 (Goes.refl cQ)
 ·exact jJ w s x t ho e i z size bytes ht hi hz gy tC JV cY v n xs hs cQ ⟨g,off,none⟩ m cap ys hx (j9 tI) (fun j u hu=>by have hj:j<ys.length:=(cH.1 hu).1;rw[Addr.add_lit,aW tI j (by rw[<-j9 tI];exact hj)];exact hu) h1 yx eU h
theorem qJ{ops:Array Oper}{o:Oper}{a:Act}{K:Act->World->Prop}{Q:Exit->Act->World->Prop}{E:Prop}(JD:o.guard=none)(s x:Operand)(t:TypeId)(ho:o.op= .call {callee:= .builtin .append,args:= #[s,x],argTypes:= #[t,t]})(e:TypeId)(i:TypeInfo)(z:Value)(size bytes:Nat)(ht:P.underlying t=some (.slice e))(hi:P.info? e=some i)(hz:i.zero=some z)(gy:i.size=size)(tC:i.bytes=bytes)(JV:z.cells.size=size)(cY:0<size){F G:Ft}(v:Value)(n:Nat)(xs:List Value)(hs:a.eval s=v)(cQ:(rowA e size v n xs).holds w F)(v2:Value)(m:Nat)(ys:List Value)(hx:a.eval x=v2)(tI:(rowA e size v2 m ys).holds w G)(h1: ∀u∈ys,u.oneCell'=true)(yx:n+m<=maxLen)(eU:(n+m)*bytes<=140737488355328)(h: ∀eK nT w',Goes (rowA e size (.slice eK (n+m) nT) (n+m) (xs++ys)) w F w'->K (a.put o.dst (.slice eK (n+m) nT)) w'):if Region.wanted o (yielded ops a.tmps)=true then Oper.wp P o a w K Q else E:=by
 have hw:Region.wanted o (yielded ops a.tmps)=true:=by simp[Region.wanted,JD]
 rw[if_pos hw];exact uF w s x t ho e i z size bytes ht hi hz gy tC JV cY v n xs hs cQ v2 m ys hx tI h1 yx eU h
end
end
namespace Mc
open bA
namespace St
variable{s:St}
def ns(s:St):List Int:=s.ak.map (·.n)
theorem Iu(c:Int):(s.dR c).ns=s.ns:=by
 unfold dR;split
 ·exact bp (fun x:Cn=>x.n==c) (fun x:Cn=>{x with gone:=true}) (·.n) (fun _=>rfl) s.ak
 ·rfl
theorem xh(i:Nat):(s.aU i).ns=s.ns:=by
 unfold aU;split
 ·rw[Iu];rfl
 ·rfl
theorem Bi: ∀(f:Nat) (s:St) (id:Int),(stops f s id).ns=s.ns
 |0,_,_=>rfl
 |f+1,s,id=>by
  unfold stops;split
  ·rfl
  ·split
   ·rfl
   ·rw[Bi f,xh];rfl
theorem ye(id:Int):(s.shut id).ns=s.ns:=Bi _ s id
theorem Bo(id:Int)(f:Bool):(s.aT id f).ns=s.ns:=by unfold aT;split<;>rfl
theorem Ic(id:Int)(c:Bool):(s.again id c).ns=s.ns:=by
 unfold again;split
 ·rfl
 ·split
  ·rfl
  ·split
   ·rw[ye];rfl
   ·rw[Bo];split<;>rfl
theorem M0(c:Int)(ws:List Int)(k:Nat):(s.give c ws k).ns=s.ns:=by
 unfold give;split
 ·rfl
 ·split
  ·rfl
  ·split<;>rfl
theorem wL: ∀(f:Nat) (s:St),(bK f s).ns=s.ns
 |0,_=>rfl
 |f+1,s=>by
  unfold bK;split
  ·rfl
  ·split
   ·rfl
   ·rw[wL f,M0]
theorem GK(c:Int)(m:Mg):(s.bT c m).ns=s.ns:=by
 unfold bT;split
 ·rfl
 ·split
  ·rfl
  ·rw[Bo];rfl
theorem D4{c:Int}:s.ak.any (·.n==c)=s.ns.any (· ==c):=by unfold ns;rw[List.any_map];rfl
theorem CO{c:Int}(h:s.ak.any (·.n==c)=true)(m:Mg):(s.message c m).ns=s.ns:=by
 unfold message;split
 ·exact GK c m
 split
 ·split
  ·rfl
  ·split
   ·rw[ye];rfl
   ·rfl
 split
 ·split
  ·rfl
  ·dsimp only;rw[eH h];split<;>rfl
 split
 ·rfl
 split
 ·split
  ·rfl
  ·split
   ·rfl
   ·rw[ye,xh];rfl
 split
 ·split
  ·rfl
  ·rw[Ic,xh]
 split
 ·dsimp only;rw[Iu,eH h];exact bp (fun x:Cn=>x.n==c) (fun x:Cn=>{x with drains:=true}) (·.n) (fun _=>rfl) s.ak
 ·rfl
theorem Er{c:Int}(h:s.ak.any (·.n==c)=true)(l:Bs):(s.line c l).ns=s.ns:=by
 unfold line;split
 ·exact(wL _ _).trans (CO h _)
 ·rfl
theorem qy{c:Int}(h:s.ak.any (·.n==c)=true)(l:Bs):(s.line c l).ak.any (·.n==c)=true:=by rw[D4,Er h,<-D4];exact h
theorem nD{c:Int}: ∀(ls:List Bs) {s:St},s.ak.any (·.n==c)=true->(s.lines c ls).ak.any (·.n==c)=true
 | [],_,h=>h
 |l::ls,_,h=>nD ls (qy h l)
theorem tV{c:Int}: ∀(ls:List Bs) {s:St},s.ak.any (·.n==c)=true->(s.lines c ls).ns=s.ns
 | [],_,_=>rfl
 |l::ls,_,h=>(tV ls (qy h l)).trans (Er h l)
theorem FP(c:Int)(a b:List Bs):s.lines c (a++b)=(s.lines c a).lines c b:=by unfold lines;rw[List.foldl_append]
theorem Ol(k:EO){c:Int}(h:s.ak.any (·.n==c)=true)(l:Bs):(sk k s).line c l=sk k (s.line c l):=by
 unfold line;split
 ·rw[C5 k h,Lg]
 ·exact ib k c bad
theorem uw(k:EO){c:Int}: ∀(ls:List Bs) {s:St},s.ak.any (·.n==c)=true->(sk k s).lines c ls=sk k (s.lines c ls)
 | [],_,_=>rfl
 |l::ls,s,h=>by show((sk k s).line c l).lines c ls=sk k ((s.line c l).lines c ls);rw[Ol k h,uw k ls (qy h l)]
theorem Az{l:Bs}(h:80<l.length):ju l=false:=by have:=kH (l:=l) (by omega);show(fG l &&(fU (dn l)).2)=false;rw[this.2];rfl
theorem Km(c:Int)(x y:Bs):s.line c (x.take 81++y)=s.line c (x++y):=by
 by_cases h:x.length<=81
 ·rw[List.take_of_length_le h]
 ·unfold line;rw[Az (l:=x++y) (by rw[aC];omega),Az (l:=x.take 81++y) (by rw[aC,List.length_take];omega)];rfl
def bf(r:Bs)(b:Bs):List Bs×Bs:=b.foldl (cg 10) ([],r)
theorem xa(r b:Bs)(x:UInt8):bf r (b++ [x])=cg 10 (bf r b) x:=by unfold bf;rw[List.foldl_append];rfl
theorem qg(l:Bs): ∀(d d':List Bs) (x:Bs),l.foldl (cg 10) (d++d',x)=(d++(l.foldl (cg 10) (d',x)).1,(l.foldl (cg 10) (d',x)).2):=by
 induction l with
 |nil=>intro d d' x;rfl
 |cons a l ih=>
  intro d d' x;rw[List.foldl_cons,List.foldl_cons];unfold cg;split
  ·rw[List.append_assoc];exact ih d (d'++ [x]) []
  ·exact ih d d' (x++ [a])
theorem P5(r b1 b2:Bs):bf r (b1++b2)=((bf r b1).1++(bf (bf r b1).2 b2).1,(bf (bf r b1).2 b2).2):=by unfold bf;rw[List.foldl_append];have:=qg b2 (b1.foldl (cg 10) ([],r)).1 [] (b1.foldl (cg 10) ([],r)).2;rw[List.append_nil]at this;exact this
theorem Ey(r:Bs): ∀(n:Nat) (b:Bs),b.length=n->gW r (cD 10 b)=(bf r b).1++ [(bf r b).2]
 |0,b,h=>by obtain rfl:=List.length_eq_zero_iff.1 h;show [r++ []]= []++ [r];rw[List.append_nil];rfl
 |n+1,b,h=>by
  rcases List.eq_nil_or_concat b with rfl|⟨L,a,rfl⟩
  ·simp at h
  ·rw[List.concat_eq_append]at h⊢;have ih:=Ey r n L (by simpa using h);rw[xa];unfold cD at ih⊢;rw[vM];generalize pY 10 L=p at*;generalize bf r L=q at*;obtain⟨d,x⟩:=p;obtain⟨D,X⟩:=q;dsimp only at ih⊢;unfold cg;split
   ·dsimp only;rw[<-ih];cases d<;>rfl
   ·dsimp only;cases d with
    |nil=>
     have h1: [r++x]=D++ [X]:=ih;have h2:=List.append_inj' (show([]:List Bs)++ [r++x]=D++ [X]from h1) rfl;obtain⟨h3,h4⟩:=h2;subst h3;have h5:r++x=X:=by simpa using h4
     show [r++(x++ [a])]= []++ [X++ [a]];rw[<-h5,List.append_assoc];rfl
    |cons y d=>
     have h2:=List.append_inj' (show((r++y)::d)++ [x]=D++ [X]from ih) rfl;obtain⟨h3,h4⟩:=h2;have h5:x=X:=by simpa using h4
     show((r++y)::d)++ [x++ [a]]=D++ [X++ [a]];rw[h3,h5]
theorem xj(c:Int)(b:Bs):s.feed c b=(((s.conn c).lines c (bf (s.cu c) b).1).conn c).bD c ((bf (s.cu c) b).2.take 81):=by unfold feed oQ;rw[Ey _ _ b rfl,List.dropLast_concat,List.getLastD_concat]
theorem Et{p:Cn->Bool}{g:Cn->Cn}: ∀{l:List Cn},(∀c,(∀x∈l,p x=true->x.n=c)->True)->l.Pairwise (fun x y=> ¬(p x=true∧p y=true))->aA p g l=l.map (fun x=>if p x=true then g x else x)
 | [],_,_=>rfl
 |x::l,h,hp=>by
  unfold aA;rw[List.map_cons];rw[List.pairwise_cons]at hp;by_cases hx:p x=true
  ·rw[if_pos hx,if_pos hx];congr 1;have:l.map (fun x=>if p x=true then g x else x)=l.map id:=by
    refine bu fun y hy=> ?_;rw[if_neg (fun h=>hp.1 y hy ⟨hx,h⟩)];rfl
   rw[this,List.map_id]
  ·rw[if_neg hx,if_neg hx,Et (fun _ _=>trivial) hp.2]
def mF(c:Int)(r:Bs)(x:Cn):Cn:=if(x.n==c)=true then{x with rest:=r}else x
theorem yc{c:Int}(r:Bs)(h:s.ns.Nodup):s.bD c r={s with ak:=s.ak.map (mF c r)}:=by
 unfold bD;rw[Et (fun _ _=>trivial)]
 ·rfl
 ·have h1:s.ak.Pairwise (fun x y=>x.n≠y.n):=by
   unfold ns at h;exact List.pairwise_map.1 h
  refine h1.imp fun cz hxy=>cz ?_;have a1:=hxy.1;have a2:=hxy.2;rw[beq_iff_eq]at a1 a2;rw[a1,a2]
def gT(c:Int)(r:Bs)(o:List (Int×Bs)):EO where
 o:=o
 f:=mF c r
 n x:=by unfold mF;split<;>rfl
 drains x:=by unfold mF;split<;>rfl
 gone x:=by unfold mF;split<;>rfl
 Rc x:=by unfold mF;split<;>rfl
 Rb x:=by unfold mF;split<;>rfl
def CR(o:List (Int×Bs)):EO where
 o:=o
 f:=id
 n _:=rfl
 drains _:=rfl
 gone _:=rfl
 Rc _:=rfl
 Rb _:=rfl
theorem set_set(c:Int)(r r':Bs)(x:Cn):mF c r (mF c r' x)=mF c r x:=by
 unfold mF;by_cases h:(x.n==c)=true
 ·rw[if_pos h,if_pos h,if_pos h]
 ·rw[if_neg h,if_neg h]
theorem K1{c:Int}(r:Bs)(h:s.ak.any (·.n==c)=true)(o:List (Int×Bs)):cu {s with ak:=s.ak.map (mF c r),out:=o} c=r:=by
 unfold cu;dsimp only;rw[td (fun x=>by unfold mF;split<;>rfl)];cases h1:s.ak.find? (·.n==c)with
 |none=>obtain⟨x,hx,hq⟩:=List.any_eq_true.1 h;exact absurd hq (List.find?_eq_none.1 h1 x hx)
 |some x=>have hq:=List.find?_some h1;show(mF c r x).rest=r;unfold mF;rw[if_pos hq]
theorem uV{c:Int}(h:s.ns.Nodup):(s.conn c).ns.Nodup:=by
 unfold conn;split
 ·exact h
 ·rename_i hn;unfold ns;dsimp only;rw[aB,List.nodup_append];refine⟨h,by simp,fun a ha b hb e=> ?_⟩;simp only[List.map_cons,List.map_nil,cC]at hb;obtain⟨x,hx,rfl⟩:=ax.1 ha;exact hn (List.any_eq_true.2 ⟨x,hx,by rw[e,hb];simp⟩)
theorem om(c:Int):(s.conn c).ak.any (·.n==c)=true:=by
 unfold conn;split
 ·assumption
 ·rw[List.any_append];simp
theorem Ko{c:Int}(r b:Bs)(s:St):s.lines c (bf (r.take 81) b).1=s.lines c (bf r b).1∧(bf (r.take 81) b).2.take 81=(bf r b).2.take 81:=by
 suffices h: ∀(n:Nat) (b:Bs),b.length=n->(∃y,(bf (r.take 81) b)=([],r.take 81++y)∧bf r b=([],r++y))∨ ∃y D X,bf (r.take 81) b=((r.take 81++y)::D,X)∧bf r b=((r++y)::D,X)by
  rcases h _ b rfl with⟨y,h1,h2⟩|⟨y,D,X,h1,h2⟩
  ·rw[h1,h2];refine⟨rfl, ?_⟩;dsimp only;rw[List.take_append,List.take_append,List.take_take,List.length_take,Nat.min_self,show 81-min 81 r.length=81-r.length by omega]
  ·rw[h1,h2];refine⟨?_,rfl⟩;show(s.line c (r.take 81++y)).lines c D=(s.line c (r++y)).lines c D;rw[Km]
 intro n
 induction n with
 |zero=>intro b hb;obtain rfl:=List.length_eq_zero_iff.1 hb;exact .inl ⟨[],by rw[List.append_nil];rfl,by rw[List.append_nil];rfl⟩
 |succ n ih=>
  intro b hb;rcases List.eq_nil_or_concat b with rfl|⟨L,a,rfl⟩
  ·simp at hb
  ·rw[List.concat_eq_append]at hb⊢;rw[xa,xa];rcases ih L (by simpa using hb)with⟨y,h1,h2⟩|⟨y,D,X,h1,h2⟩
   ·rw[h1,h2];unfold cg;by_cases ha:a=10
    ·rw[if_pos ha,if_pos ha];exact .inr ⟨y, [], [],rfl,rfl⟩
    ·rw[if_neg ha,if_neg ha];exact .inl ⟨y++ [a],by rw[List.append_assoc],by rw[List.append_assoc]⟩
   ·rw[h1,h2];unfold cg;by_cases ha:a=10
    ·rw[if_pos ha,if_pos ha];exact .inr ⟨y,D++ [X], [],rfl,rfl⟩
    ·rw[if_neg ha,if_neg ha];exact .inr ⟨y,D,X++ [a],rfl,rfl⟩
theorem I9{c:Int}(h:s.ns.Nodup)(b1 b2:Bs):(s.feed c (b1++b2)).out=(s.feed c b1).out++((s.feed c b1).told.feed c b2).out∧(s.feed c (b1++b2)).told=((s.feed c b1).told.feed c b2).told:=by
 have ha:=om (s:=s) c;have hn:=uV (c:=c) h;obtain⟨D1,X1,e1⟩: ∃D X,bf (s.cu c) b1=(D,X):=⟨_,_,rfl⟩;obtain⟨t,ht⟩: ∃t,t=(s.conn c).lines c D1:=⟨_,rfl⟩;have R4:t.ak.any (·.n==c)=true:=ht▸nD D1 ha;have Cy:t.ns.Nodup:=by rw[ht,tV D1 ha];exact hn
 have f1:s.feed c b1={t with ak:=t.ak.map (mF c (X1.take 81))}:=by rw[xj,e1];dsimp only;rw[<-ht,eH R4,yc _ Cy]
 have fw:s.feed c (b1++b2)=((t.lines c (bf X1 b2).1).conn c).bD c ((bf X1 b2).2.take 81):=by rw[xj,P5,e1];dsimp only;rw[FP,<-ht]
 obtain⟨v,hv⟩: ∃v:St,v={t with out:= []}:=⟨_,rfl⟩;have Ur:v.ak.any (·.n==c)=true:=hv▸R4;have k1:t=sk (CR t.out) v:=by rw[hv];unfold sk CR;dsimp only;rw[List.map_id,List.append_nil]
 have k2:(s.feed c b1).told=sk (gT c (X1.take 81) []) v:=by rw[f1,hv];rfl
 have hr:(s.feed c b1).told.cu c=X1.take 81:=by rw[f1];exact K1 (s:=t) _ R4 []
 have h2a:(s.feed c b1).told.ak.any (·.n==c)=true:=by rw[k2];exact yg _ Ur
 obtain⟨hl,hx⟩:=Ko (c:=c) X1 b2 v;have f2:(s.feed c b1).told.feed c b2=((sk (gT c (X1.take 81) []) (v.lines c (bf X1 b2).1)).conn c).bD c ((bf X1 b2).2.take 81):=by rw[xj,hr,eH h2a,hx];rw[k2,uw _ _ Ur,hl]
 have Zs:s.feed c (b1++b2)=((sk (CR t.out) (v.lines c (bf X1 b2).1)).conn c).bD c ((bf X1 b2).2.take 81):=by
  rw[fw]
  conv=>lhs;rw[k1]
  rw[uw _ _ Ur]
 have hza:=nD (bf X1 b2).1 Ur;have hzn:(v.lines c (bf X1 b2).1).ns.Nodup:=by rw[tV _ Ur,hv];exact Cy
 generalize(v.lines c (bf X1 b2).1)=z at*;generalize(bf X1 b2).2.take 81=X at*;rw[eH (yg _ hza)]at f2 Zs;have n1:(sk (CR t.out) z).ns.Nodup:=by
  have:(sk (CR t.out) z).ns=z.ns:=by unfold ns sk CR;dsimp only;rw[List.map_id]
  rw[this];exact hzn
 have n2:(sk (gT c (X1.take 81) []) z).ns.Nodup:=by
  have:(sk (gT c (X1.take 81) []) z).ns=z.ns:=by unfold ns sk;dsimp only;rw[az];congr 1;funext x;exact(gT c (X1.take 81) []).n x
  rw[this];exact hzn
 rw[f2,Zs,yc _ n1,yc _ n2,f1];refine⟨rfl, ?_⟩;unfold told sk CR gT;dsimp only;rw[List.map_id,az];congr 1;refine bu fun x _=> ?_;exact(set_set c X (X1.take 81) x).symm
