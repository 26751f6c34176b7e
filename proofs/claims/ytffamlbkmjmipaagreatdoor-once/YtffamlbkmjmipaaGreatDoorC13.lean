import Derived.Test.YtffamlbkmjmipaaGreatDoorC03
set_option maxHeartbeats 8000000
set_option maxRecDepth 100000
namespace Go.Proofs.YtffamlbkmjmipaaGreatDoor
namespace Mc
open bG
namespace St
variable{s:St}
theorem Ab{t:Bs}{i:Int}(h:i∈s.aS t): ∃l∈s.ring,l.ten=t∧i∈l.ids:=by
 unfold aS at h;split at h
 ·rename_i l hl;exact⟨l,cI hl,by simpa using List.find?_some hl,h⟩
 ·cases h
theorem js(hi:Inv s){l:Ln}(hl:l∈s.ring):s.aS l.ten=l.ids:=by unfold aS;have hs:(s.ring.find? (·.ten==l.ten)).isSome:=List.find?_isSome.2 ⟨l,hl,by simp⟩;obtain⟨y,hy⟩:=Option.isSome_iff_exists.1 hs;rw[hy];show y.ids=l.ids;rw[bC (k:=fun l:Ln=>l.ten) hi.fu (cI hy) hl (by simpa using List.find?_some hy)]
theorem wH{t:Bs}(h:t∉s.ring.map (·.ten)):s.aS t= []:=by unfold aS;rw[List.find?_eq_none.2 (fun l hl e=>h (az.2 ⟨l,hl,by simpa using e⟩))]
theorem mU(hi:Inv s){t:Bs}:s.aS t≠ []↔t∈s.ring.map (·.ten):=by
 constructor
 ·intro h;apply Classical.byContradiction;intro h';exact h (wH h')
 ·intro h;obtain⟨l,hl,rfl⟩:=az.1 h;rw[js hi hl];exact(hi.ring l hl).1
theorem AQ(hi:Inv s){t:Bs}:s.ring.any (·.ten==t)=true↔s.aS t≠ []:=by
 rw[mU hi,List.any_eq_true];constructor
 ·rintro⟨l,hl,e⟩;exact az.2 ⟨l,hl,by simpa using e⟩
 ·intro h;obtain⟨l,hl,e⟩:=az.1 h;exact⟨l,hl,by simpa using e⟩
theorem uC(hi:Inv s)(t:Bs):(s.aS t).Nodup:=by
 by_cases h:t∈s.ring.map (·.ten)
 ·obtain⟨l,hl,rfl⟩:=az.1 h;rw[js hi hl];obtain⟨k,hk,rfl⟩:=List.getElem_of_mem hl;have:=(pV (r:=s.ring) (k:=k) (aY hk)).nodup_iff.1 hi.once;exact(List.nodup_append.1 this).1
 ·rw[wH h];simp
theorem kT(hi:Inv s){t:Bs}{i:Int}(h:i∈s.aS t):s.ten i=t∧i∈s.ks.map (·.1):=by obtain⟨l,hl,rfl,hm⟩:=Ab h;have:=(hi.ring l hl).2 i hm;exact⟨yM hi this,lT this⟩
theorem tZ(hi:Inv s){i:Int}:s.waits i=true↔i∈s.aS (s.ten i):=by
 rw[cS];constructor
 ·intro h;obtain⟨l,hl,hm⟩:=List.mem_flatMap.1 h;rw[yM hi ((hi.ring l hl).2 i hm),js hi hl];exact hm
 ·intro h;obtain⟨l,hl,_,hm⟩:=Ab h;exact List.mem_flatMap.2 ⟨l,hl,hm⟩
theorem Dc(hi:Inv s){id:Int}(f:Bool)(t:Bs):(s.aX id f).aS t=if t=s.ten id then(if f then id::s.aS t else s.aS t++ [id])else s.aS t:=by
 unfold aX;split
 ·rename_i ha;unfold aS;dsimp only;rw[bK (fun l:Ln=>l.ten) (s.ten id) _ hi.fu,List.find?_map];have e:((fun l:Ln=>l.ten==t)∘fun x:Ln=>if(x.ten==s.ten id)=true then({x with ids:=if f=true then id::x.ids else x.ids++ [id]}:Ln)else x)=fun l=>l.ten==t:=by
   funext l;simp only[Function.comp_def];split<;>rfl
  rw[e];cases hf:s.ring.find? (fun l=>l.ten==t)with
  |none=>simp only[Option.map_none];rw[if_neg];rintro rfl;rw[List.find?_eq_none]at hf;rw[List.any_eq_true]at ha;obtain⟨l,hl,h⟩:=ha;exact hf l hl h
  |some l=>
   have hl:l.ten=t:=by simpa using List.find?_some hf
   simp only[Option.map_some];by_cases h:t=s.ten id
   ·rw[if_pos h];simp[hl,h]
   ·rw[if_neg h];simp[hl,h]
 ·rename_i ha;have ha':s.ten id∉s.ring.map (·.ten):=fun h=>ha (by rw[AQ hi,mU hi];exact h);unfold aS;dsimp only;rw[List.find?_append];by_cases h:t=s.ten id
  ·subst h;have hn:s.ring.find? (fun l=>l.ten==s.ten id)=none:=List.find?_eq_none.2 (fun l hl e=>ha' (az.2 ⟨l,hl,by simpa using e⟩));rw[hn];simp
  ·rw[if_neg h];have: [(⟨s.ten id, [id]⟩:Ln)].find? (fun l=>l.ten==t)=none:=by simp[Ne.symm h]
   rw[this,Option.or_none]
theorem He(hi:Inv s){id:Int}(f:Bool):(s.aX id f).ring.map (·.ten)=if s.aS (s.ten id)= []then s.ring.map (·.ten)++ [s.ten id]else s.ring.map (·.ten):=by
 unfold aX;split
 ·rename_i ha;rw[AQ hi]at ha;rw[if_neg ha];exact bn _ (fun l:Ln=>{l with ids:=if f=true then id::l.ids else l.ids++ [id]}) (·.ten) (fun _=>rfl) _
 ·rename_i ha;rw[AQ hi]at ha;rw[if_pos (Classical.not_not.1 ha),aD];rfl
theorem JX(r:List Ln)(id:Int)(t:Bs)(hn:(r.map (fun l:Ln=>l.ten)).Nodup):(match ((r.map (fun l=>({l with ids:=l.ids.filter (· !=id)}:Ln))).filter (fun l=> !l.ids.isEmpty)).find? (fun l:Ln=>l.ten==t)with|some l=>l.ids|none=> [])=(match r.find? (fun l:Ln=>l.ten==t)with|some l=>l.ids|none=> []).filter (· !=id):=by
 induction r with
 |nil=>rfl
 |cons l r ih=>
  rw[List.map_cons,List.nodup_cons]at hn;rw[List.map_cons,List.filter_cons,List.find?_cons];by_cases e:(l.ten==t)=true
  ·rw[e];dsimp only;by_cases e2:l.ids.filter (· !=id)= []
   ·rw[if_neg (by simpa using e2),e2];rw[ih hn.2];have:r.find? (·.ten==t)=none:=List.find?_eq_none.2 (fun x hx h=>hn.1 (az.2 ⟨x,hx,by rw[beq_iff_eq]at e h;rw[e,h]⟩));rw[this];rfl
   ·rw[if_pos (by simpa using e2),List.find?_cons];rw[show((({l with ids:=l.ids.filter (· !=id)}:Ln).ten==t)=true)from e]
  ·have e':(l.ten==t)=false:=by simpa using e
   rw[e'];dsimp only;by_cases e2:(!(l.ids.filter (· !=id)).isEmpty)=true
   ·rw[if_pos e2,List.find?_cons];rw[show((({l with ids:=l.ids.filter (· !=id)}:Ln).ten==t)=false)from e'];exact ih hn.2
   ·rw[if_neg e2];exact ih hn.2
theorem wG(hi:Inv s)(id:Int)(t:Bs):(s.left id).aS t=(s.aS t).erase id:=by rw[(uC hi t).erase_eq_filter];exact JX s.ring id t hi.fu
theorem K9(hi:Inv s){id:Int}:(s.left id).ring.map (·.ten)=if(s.aS (s.ten id)).erase id= []then(s.ring.map (·.ten)).erase (s.ten id)else s.ring.map (·.ten):=by
 have zv: ∀t,t∈(s.left id).ring.map (·.ten)↔(s.aS t).erase id≠ []:=fun t=>by rw[<-wG hi,mU (rO hi id)]
 have oq:((s.left id).ring.map (·.ten)).Sublist (s.ring.map (·.ten)):=by
  have e:(s.ring.map (fun l=>({l with ids:=l.ids.filter (· !=id)}:Ln))).map (·.ten)=s.ring.map (·.ten):=by rw[aB];rfl
  rw[<-e];exact List.filter_sublist.map _
 have heq:(s.left id).ring.map (·.ten)=(s.ring.map (·.ten)).filter (fun t=> !((s.aS t).erase id).isEmpty):=by
  unfold left;dsimp only;have: ∀(r:List Ln),(∀l∈r,l∈s.ring)->((r.map (fun l=>({l with ids:=l.ids.filter (· !=id)}:Ln))).filter (fun l=> !l.ids.isEmpty)).map (·.ten)=(r.map (·.ten)).filter (fun t=> !((s.aS t).erase id).isEmpty):=by
   intro r hr
   induction r with
   |nil=>rfl
   |cons l r ih=>
    have hl:=hr l (bY ..);have e:(s.aS l.ten).erase id=l.ids.filter (· !=id):=by rw[(uC hi _).erase_eq_filter,js hi hl]
    rw[List.map_cons,List.map_cons,List.filter_cons,List.filter_cons,e];have KA:=ih (fun x hx=>hr x (aV _ hx));split
    ·rw[List.map_cons,KA]
    ·exact KA
  exact this _ (fun _ h=>h)
 rw[heq];split
 ·rename_i h;rw[hi.fu.erase_eq_filter];refine List.filter_congr fun t ht=> ?_;by_cases e:t=s.ten id
  ·subst e;simp[h]
  ·have h1:(s.aS t).erase id=s.aS t:=List.erase_of_not_mem (fun hm=>e (kT hi hm).1.symm);have h2:s.aS t≠ []:=(mU hi).2 ht;rw[h1];have e3:(t !=s.ten id)=true:=by simpa using e
   rw[e3];simpa using h2
 ·rename_i h;refine List.filter_eq_self.2 fun t ht=> ?_;by_cases e:t=s.ten id
  ·subst e;simpa using h
  ·have h1:(s.aS t).erase id=s.aS t:=List.erase_of_not_mem (fun hm=>e (kT hi hm).1.symm);rw[h1];simpa using(mU hi).2 ht
end St
end Mc
namespace Mc
open bG
namespace St
variable{s:St}
theorem qp{s s':St}(h1:s'.ah=s.ah)(h2:s'.reqs=s.reqs)(t:Bs):s'.runs t=s.runs t:=by unfold runs ten req;rw[h1,h2]
theorem qf{s s':St}(h1:s'.ah=s.ah)(t:Int):s'.nums t=s.nums t:=by unfold nums;rw[h1]
theorem uB{s s':St}(h1:s'.ring=s.ring)(t:Bs):s'.aS t=s.aS t:=by unfold aS;rw[h1]
theorem A4{s s':St}(h1:s'.aq=s.aq)(t:Int):s'.drains t=s.drains t:=by unfold drains;rw[h1]
theorem ui(c d:Int):(s.conn c).drains d=s.drains d:=by
 unfold conn;split
 ·rfl
 ·rename_i h;unfold drains;dsimp only;rw[List.find?_append];cases hf:s.aq.find? (·.n==d)with
  |some x=>rfl
  |none=>
   by_cases e:c=d
   ·subst e;simp
   ·simp[e]
theorem FW(p:Cn->Bool)(f:Cn->Cn)(h1: ∀x,(f x).n=x.n)(h2: ∀x,(f x).drains=x.drains)(d:Int):({s with aq:=aK p f s.aq}:St).drains d=s.drains d:=by
 unfold drains;dsimp only
 induction s.aq with
 |nil=>rfl
 |cons x l ih=>
  unfold aK;by_cases hp:p x=true
  ·rw[if_pos hp,List.find?_cons,List.find?_cons,h1];by_cases e:(x.n==d)=true
   ·rw[e];exact h2 x
   ·have e':(x.n==d)=false:=by simpa using e
    rw[e']
  ·rw[if_neg hp,List.find?_cons,List.find?_cons];by_cases e:(x.n==d)=true
   ·rw[e]
   ·have e':(x.n==d)=false:=by simpa using e
    rw[e'];exact ih
theorem FV(c d:Int):(s.fp c).drains d=s.drains d:=by
 unfold fp;split
 ·exact FW (s:=s) _ (fun x=>{x with gone:=true}) (fun _=>rfl) (fun _=>rfl) d
 ·rfl
theorem JL(c:Int):(s.fp c).aq.map (·.n)=s.aq.map (·.n):=by
 unfold fp;split
 ·exact bn _ (fun x:Cn=>{x with gone:=true}) (·.n) (fun _=>rfl) _
 ·rfl
theorem JE(c:Int):(s.fp c).begun=s.begun:=by unfold fp;split<;>rfl
end St
end Mc
namespace Pj
open Mc bG
theorem gY{α:Type} [DecidableEq α]: ∀{l l':List α},l.Nodup->(∀x∈l,x∈l')->l.length<=l'.length
 | [],_,_,_=>bh _
 |x::l,l',hn,hs=>by
  have hx:=hs x (bY ..);rw[List.nodup_cons]at hn;have:=gY (l:=l) (l':=l'.erase x) hn.2 (fun y hy=>by have NY:=hs y (aV _ hy);exact(List.mem_erase_of_ne (fun(e:y=x)=>hn.1 (e▸hy))).2 NY)
  rw[List.length_erase_of_mem hx]at this;have:=List.length_pos_of_mem hx;simp only[List.length_cons];omega
namespace Rel
variable{g:Gh}{j:Js}{s:St}
theorem Z7(h:Rel g j s):j.aQ.length<=s.reqs.length:=by
 have:=gY h.nX (l':=s.reqs.map (·.ten)) (fun x hx=>by obtain⟨t,ht,rfl⟩:=az.1 hx;obtain⟨r,hr,e⟩:=h.zf t ht;exact az.2 ⟨r,hr,e⟩)
 simpa using this
theorem cons(h:Rel g j s):j.bu.length<=s.aq.length:=by
 have:=gY h.cnd (l':=s.aq.map (·.n)) (fun x hx=>by obtain⟨t,ht,rfl⟩:=az.1 hx;exact h.cin t ht)
 simpa using this
theorem out(h:Rel g j s)(o:List (Int×Bs)):Rel g j {s with out:=o}:=⟨h.c,h.now,h.begun,h.pull,h.ring,h.reqs,h.al,h.nX,h.wt,h.rn,h.ten,h.zf,h.hp,h.heap,h.D8,h.oz,h.cnd,h.cin,h.dr⟩
theorem say(h:Rel g j s)(c:Int)(t:Bs):Rel g j (s.say c t):=h.out _
theorem told(h:Rel g j s):Rel g j s.told:=h.out _
theorem conn(h:Rel g j s)(c:Int):Rel g j (s.conn c):=by
 obtain⟨e1,e2,e3,e4,e5,e6,e7,e8⟩:=St.iZ (s:=s) c;refine⟨by rw[e6];exact h.c,by rw[e7];exact h.now,by rw[e8];exact h.begun,by rw[e4];exact h.pull,by rw[e3];exact h.ring,by rw[e2];exact h.reqs,fun r hr=>by rw[St.qf e1];exact h.al r hr,h.nX,
  fun t ht=>by rw[St.uB e3];exact h.wt t ht,fun t ht=>by rw[St.qp e1 e2];exact h.rn t ht,by rw[e2];exact h.ten,by rw[e2];exact h.zf,by rw[e1];exact h.hp,h.heap,by rw[e1];exact h.D8,by rw[e1,e8];exact h.oz,h.cnd,fun k hk=> ?_,fun d=>by rw[St.ui];exact h.dr d⟩
 have:=h.cin k hk;unfold St.conn;split
 ·exact this
 ·rw[aD];exact List.mem_append_left _ this
theorem fp(h:Rel g j s)(c:Int):Rel g j (s.fp c):=by
 obtain⟨_,e1,e3,e2,e4,e6,e7⟩:=St.vS (s:=s) c;have e8:=St.JE (s:=s) c;exact⟨by rw[e6];exact h.c,by rw[e7];exact h.now,by rw[e8];exact h.begun,by rw[e4];exact h.pull,by rw[e3];exact h.ring,by rw[e2];exact h.reqs,fun r hr=>by rw[St.qf e1];exact h.al r hr,h.nX,
  fun t ht=>by rw[St.uB e3];exact h.wt t ht,fun t ht=>by rw[St.qp e1 e2];exact h.rn t ht,by rw[e2];exact h.ten,by rw[e2];exact h.zf,by rw[e1];exact h.hp,h.heap,by rw[e1];exact h.D8,by rw[e1,e8];exact h.oz,h.cnd,by rw[St.JL];exact h.cin,fun d=>by rw[St.FV];exact h.dr d⟩
theorem rings(h:Rel g j s){s':St}(j':Js)(e1:s'.ah=s.ah)(e2:s'.reqs=s.reqs)(e3:s'.wait=s.wait)(e4:s'.aq=s.aq)(e5:s'.c=s.c)(e6:s'.now=s.now)(e7:s'.begun=s.begun)(x:Bs)(f:List Int->List Int)(hj:j'={j with ring:=j'.ring,aQ:=upd (fun t:Tr=>t.nm) x (fun t=>{t with wt:=f t.wt}) j.aQ})(hr:j'.ring=s'.ring.map (·.ten))(hw: ∀t,s'.aS t=if t=x then f (s.aS t)else s.aS t):Rel g j' s':=by
 have em:j'.aQ.map (·.nm)=j.aQ.map (·.nm):=by rw[hj];exact fR (fun t:Tr=>t.nm) (fun _ _ _=>rfl)
 have ht: ∀t∈j'.aQ,∃y∈j.aQ,t=if y.nm=x then{y with wt:=f y.wt}else y:=by intro t ht;rw[hj]at ht;obtain⟨y,hy,e⟩:=az.1 ht;exact⟨y,hy,e.symm⟩
 refine⟨by rw[hj,e5];exact h.c,by rw[hj,e6];exact h.now,by rw[hj,e7];exact h.begun,by rw[hj,e3];exact h.pull,hr,by rw[hj,e2];exact h.reqs,fun r hr=>by rw[St.qf e1];exact h.al r (by rw[hj]at hr;exact hr),by rw[em];exact h.nX,
  fun t za=> ?_,fun t za=> ?_,by rw[em,e2];exact h.ten,fun t za=> ?_,by rw[hj,e1];exact h.hp,by rw[hj];exact h.heap,by rw[e1];exact h.D8,by rw[e1,e7];exact h.oz,by rw[hj];exact h.cnd,by rw[hj,e4];exact h.cin,fun d=>by rw[St.A4 e4,hj];exact h.dr d⟩
 ·obtain⟨y,hy,rfl⟩:=ht t za;rw[hw];split
  ·show f y.wt=f (s.aS y.nm);rw[h.wt y hy]
  ·exact h.wt y hy
 ·obtain⟨y,hy,rfl⟩:=ht t za;rw[St.qp e1 e2];split
  ·exact h.rn y hy
  ·exact h.rn y hy
 ·obtain⟨y,hy,rfl⟩:=ht t za;rw[e2];split
  ·exact h.zf y hy
  ·exact h.zf y hy
theorem Cl(id:Int)(f:Bool):(s.aX id f).begun=s.begun:=by unfold St.aX;split<;>rfl
theorem wait(h:Rel g j s)(hi:Inv s){x:Tr}(hx:x∈j.aQ){id:Int}(e:x.nm=s.ten id)(f:Bool):Rel g (j.wait x id f) (s.aX id f):=by
 obtain⟨_,e1,e2,e3,e4,_,e5,e6⟩:=St.fW (s:=s) id f;refine h.rings _ e1 e2 e3 e4 e5 e6 (Cl id f) x.nm (fun l=>if f then id::l else l++ [id]) rfl ?_ (fun t=> ?_)
 ·rw[St.He hi];show(if x.wt= []then j.ring++ [x.nm]else j.ring)=_;rw[h.wt x hx,e,h.ring]
 ·rw[St.Dc hi,e]
theorem left(h:Rel g j s)(hi:Inv s){x:Tr}(hx:x∈j.aQ){id:Int}(e:x.nm=s.ten id):Rel g (j.left x id) (s.left id):=by
 refine h.rings _ rfl rfl rfl rfl rfl rfl rfl x.nm (fun l=>l.erase id) rfl ?_ (fun t=> ?_)
 ·rw[St.K9 hi];show(if x.wt.erase id= []then j.ring.erase x.nm else j.ring)=_;rw[h.wt x hx,e,h.ring]
 ·rw[St.wG hi];split
  ·rfl
  ·rename_i ne;exact List.erase_of_not_mem (fun hm=>ne (by rw[e];exact(St.kT hi hm).1.symm))
theorem idle(h:Rel g j s)(c:Int):Rel g {j with pull:=j.pull.filter (· !=c)} (s.idle c):=
 ⟨h.c,h.now,h.begun,by show _=s.wait.filter _;rw[<-h.pull],h.ring,h.reqs,h.al,h.nX,h.wt,h.rn,h.ten,h.zf,h.hp,h.heap,h.D8,h.oz,h.cnd,h.cin,h.dr⟩
theorem pulls(h:Rel g j s)(l:List Int):Rel g {j with pull:=l} {s with wait:=l}:=
 ⟨h.c,h.now,h.begun,rfl,h.ring,h.reqs,h.al,h.nX,h.wt,h.rn,h.ten,h.zf,h.hp,h.heap,h.D8,h.oz,h.cnd,h.cin,h.dr⟩
theorem abd(h:Rel g j s)(n:Int):Rel g {j with now:=n} {s with now:=n}:=
 ⟨h.c,rfl,h.begun,h.pull,h.ring,h.reqs,h.al,h.nX,h.wt,h.rn,h.ten,h.zf,h.hp,h.heap,h.D8,h.oz,h.cnd,h.cin,h.dr⟩
end Rel
end Pj
namespace Mc
open bG
theorem kW{p:At->Bool}: ∀{l:List At} {i:Nat} {a:At},l[i]?=some a->p a=true->(∀x∈l,p x=true->x.n=a.n->x=a)->(l.map fun a=>(a.id,a.n)).Nodup->((l.eraseIdx i).filter p).map (·.n)=((l.filter p).map (·.n)).erase a.n
 | [],i,a,h,_,_,_=>by simp at h
 |x::l,0,a,h,hp,_,_=>by simp at h;subst h;simp[hp]
 |x::l,i+1,a,h,hp,hu,hn=>by
  have h':l[i]?=some a:=by simpa using h
  rw[List.map_cons,List.nodup_cons]at hn;have ih:=kW h' hp (fun y hy=>hu y (aV _ hy)) hn.2;rw[List.eraseIdx_cons_succ,List.filter_cons,List.filter_cons];by_cases e:p x=true
  ·rw[if_pos e,if_pos e,List.map_cons,List.map_cons,ih];have cA:x.n≠a.n:=fun e2=>by
    have:=hu x (bY ..) e e2;subst this;exact hn.1 (az.2 ⟨x,cJ h',rfl⟩)
   rw[List.erase_cons_tail (by simpa using cA)]
  ·rw[if_neg e,if_neg e,ih]
theorem iR{α:Type}{p:α->Bool}: ∀{l:List α} {i:Nat} {a:α},l[i]?=some a->p a=false->(l.eraseIdx i).filter p=l.filter p
 | [],i,a,h,_=>by simp at h
 |x::l,0,a,h,hp=>by simp at h;subst h;simp[hp]
 |x::l,i+1,a,h,hp=>by
  have h':l[i]?=some a:=by simpa using h
  rw[List.eraseIdx_cons_succ,List.filter_cons,List.filter_cons,iR h' hp]
namespace St
variable{s:St}
theorem yz(ho:Ok s){i:Nat}{a:At}(ha:s.ah[i]?=some a)(id:Int):({s with ah:=s.ah.eraseIdx i}:St).nums id=if id=a.id then(s.nums id).erase a.n else s.nums id:=by
 unfold nums;dsimp only;split
 ·rename_i e;subst e;refine kW ha (by simp) (fun x hx hp hn=> ?_) ho.key;have e:x.id=a.id:=by simpa using hp
  exact bC (k:=fun a:At=>(a.id,a.n)) ho.key hx (cJ ha) (by rw[e,hn])
 ·rename_i e;rw[iR ha (by simpa using Ne.symm e)]
theorem Hf{i:Nat}{a:At}(ha:s.ah[i]?=some a)(t:Bs):({s with ah:=s.ah.eraseIdx i}:St).runs t+(if s.ten a.id=t then 1 else 0)=s.runs t:=by have:=fP (fun x:At=>s.ten x.id==t) ha;have e:({s with ah:=s.ah.eraseIdx i}:St).runs t=(s.ah.eraseIdx i).countP (fun x:At=>s.ten x.id==t):=rfl;rw[e];simpa[runs]using this
theorem sx(id:Int)(f:Rq->Rq)(h1: ∀r,(f r).id=r.id)(h2: ∀r,(f r).ten=r.ten)(i:Int):(s.bj id f).ten i=s.ten i:=by
 unfold ten req bj;dsimp only
 induction s.reqs with
 |nil=>rfl
 |cons x l ih=>
  unfold aK;by_cases hp:(x.id==id)=true
  ·rw[if_pos hp,List.find?_cons,List.find?_cons,h1];by_cases e:(x.id==i)=true
   ·rw[e];exact h2 x
   ·have e':(x.id==i)=false:=by simpa using e
    rw[e']
  ·rw[if_neg hp,List.find?_cons,List.find?_cons];by_cases e:(x.id==i)=true
   ·rw[e]
   ·have e':(x.id==i)=false:=by simpa using e
    rw[e'];exact ih
end St
end Mc
namespace Pj
open Mc bG
namespace Rel
variable{g:Gh}{j:Js}{s:St}
theorem ended(h:Rel g j s)(ho:Ok s){i:Nat}{a:At}(ha:s.ah[i]?=some a)(hp:List At)(h1:(a::hp).Perm j.hp)(h2:Hp.Heap (fJ g) hp hp.length):Rel g (j.ended a (s.ten a.id) hp) {s with ah:=s.ah.eraseIdx i}:=by
 have ht: ∀t∈(j.ended a (s.ten a.id) hp).aQ,∃y∈j.aQ,t=if y.nm=s.ten a.id then{y with rn:=y.rn-1}else y:=by intro t ht;obtain⟨y,hy,e⟩:=az.1 ht;exact⟨y,hy,e.symm⟩
 have em:(j.ended a (s.ten a.id) hp).aQ.map (·.nm)=j.aQ.map (·.nm):=fR (fun t:Tr=>t.nm) (fun _ _ _=>rfl);have oq:=List.eraseIdx_sublist s.ah i;refine⟨h.c,h.now,h.begun,h.pull,h.ring, ?_,fun r hr=> ?_,by rw[em];exact h.nX,fun t za=> ?_,fun t za=> ?_,by rw[em];exact h.ten,fun t za=> ?_, ?_,h2,h.D8.sublist (oq.map _),fun b hb=>h.oz b (oq.subset hb),h.cnd,h.cin,h.dr⟩
 ·have:(j.ended a (s.ten a.id) hp).reqs.map (·.q)=j.reqs.map (·.q):=fR (fun r:Rr=>r.q) (fun _ _ _=>rfl);rw[this];exact h.reqs
 ·rw[St.yz ho ha];rcases Bt hr with⟨hr,cA⟩|⟨y,hy,hk,rfl⟩
  ·rw[if_neg cA];exact h.al r hr
  ·dsimp only at hk⊢;rw[if_pos hk,h.al y hy]
 ·obtain⟨y,hy,rfl⟩:=ht t za;show _=s.aS _;split
  ·exact h.wt y hy
  ·exact h.wt y hy
 ·obtain⟨y,hy,rfl⟩:=ht t za;have hr:=St.Hf ha y.nm;have h0:=h.rn y hy;split
  ·rename_i e;rw[if_pos e.symm]at hr;show y.rn-1=((({s with ah:=s.ah.eraseIdx i}:St).runs y.nm:Nat):Int);omega
  ·rename_i e;rw[if_neg (fun e'=>e e'.symm)]at hr;omega
 ·obtain⟨y,hy,rfl⟩:=ht t za;split
  ·exact h.zf y hy
  ·exact h.zf y hy
 ·show hp.Perm (s.ah.eraseIdx i);have h3:(a::hp).Perm (a::s.ah.eraseIdx i):=by
   refine(h1.trans h.hp).trans ?_;have aN:=(cz.1 ha).1;have e:a=s.ah[i]:=((cz.1 ha).2).symm;have:s.ah=s.ah.take i++a::s.ah.drop (i+1):=by rw[e,List.getElem_cons_drop,List.take_append_drop]
   rw[List.eraseIdx_eq_take_drop_succ];exact(List.Perm.of_eq this).trans List.perm_middle
  exact(List.perm_cons a).1 h3
theorem bj(h:Rel g j s)(hi:Inv s)(id:Int)(f:Rq->Rq)(h1: ∀r,(f r).id=r.id)(h2: ∀r,(f r).ten=r.ten):Rel g (j.TX id (fun r=>{r with q:=f r.q})) (s.bj id f):=by
 have iL:=hi.rid;unfold St.ks at iL;rw[aB]at iL;have er:(j.TX id (fun r=>{r with q:=f r.q})).reqs.map (·.q)=(s.bj id f).reqs:=by show(upd (fun r:Rr=>r.q.id) id (fun r=>{r with q:=f r.q}) j.reqs).map (·.q)=aK (·.id==id) f s.reqs;rw[bK (fun r:Rq=>r.id) id f iL,<-h.reqs];unfold upd;rw[aB,aB];refine bz fun r _=> ?_;simp only[Function.comp_def,beq_iff_eq];split<;>rfl
 have Ro: ∀t,(s.bj id f).runs t=s.runs t:=fun t=>by unfold St.runs;show List.countP _ s.ah=_;congr 1;funext a;rw[St.sx id f h1 h2]
 have hm: ∀r∈(s.bj id f).reqs,∃y∈s.reqs,r.ten=y.ten:=fun r hr=>by
  rcases bJ hr with hr|⟨y,hy,_,rfl⟩
  ·exact⟨r,hr,rfl⟩
  ·exact⟨y,hy,h2 y⟩
 have EB: ∀y∈s.reqs,∃r∈(s.bj id f).reqs,r.ten=y.ten:=fun y hy=>by
  show∃r∈aK (·.id==id) f s.reqs,r.ten=y.ten;rw[bK (fun r:Rq=>r.id) id f iL];refine⟨_,az.2 ⟨y,hy,rfl⟩, ?_⟩;split
  ·exact h2 y
  ·rfl
 refine⟨h.c,h.now,h.begun,h.pull,h.ring,er,fun r hr=> ?_,h.nX,h.wt,fun t ht=>by rw[Ro];exact h.rn t ht,fun r hr=> ?_,fun t ht=> ?_,h.hp,h.heap,h.D8,h.oz,h.cnd,h.cin,h.dr⟩
 ·show r.al=s.nums r.q.id;rcases Bt hr with⟨hr,_⟩|⟨y,hy,_,rfl⟩
  ·exact h.al r hr
  ·show y.al=s.nums (f y.q).id;rw[h1];exact h.al y hy
 ·obtain⟨y,hy,e⟩:=hm r hr;rw[e];exact h.ten y hy
 ·obtain⟨y,hy,e⟩:=h.zf t ht;obtain⟨r,hr,e'⟩:=EB y hy;exact⟨r,hr,e'.trans e⟩
end Rel
def Js.dropped(j:Js)(x:Tr)(id:Int):Js:=
 {j with reqs:=j.reqs.filter (fun r=>r.q.id !=id),aQ:=if x.wt= []∧x.rn=0 then j.aQ.filter (fun t=>t.nm !=x.nm)else j.aQ}
namespace Rel
variable{g:Gh}{j:Js}{s:St}
theorem dropped(h:Rel g j s)(hi:Inv s){id:Int}(ha: ∀a∈s.ah,a.id≠id)(hw:s.waits id=false)(hb:Busy s (fun x=>x=id)){x:Tr}(hx:x∈j.aQ)(e:x.nm=s.ten id):Rel g (j.dropped x id) {s with reqs:=dropFirst (·.id==id) s.reqs}:=by
 have iL:=hi.rid;unfold St.ks at iL;rw[aB]at iL;have hd:dropFirst (fun r:Rq=>r.id==id) s.reqs=s.reqs.filter (fun r=>r.id !=id):=gT (fun r:Rq=>r.id) id iL;have zx: ∀i,i≠id->({s with reqs:=dropFirst (·.id==id) s.reqs}:St).ten i=s.ten i:=by
  intro i cA;unfold St.ten St.req;dsimp only;rw[hd,List.find?_filter];have:(fun a:Rq=>decide ((a.id !=id)=true∧(a.id==i)=true))=fun a=>a.id==i:=by
   funext a;by_cases e2:a.id=i
   ·simp[e2,cA]
   ·simp[e2]
  rw[this]
 have Ro: ∀t,({s with reqs:=dropFirst (·.id==id) s.reqs}:St).runs t=s.runs t:=fun t=>by unfold St.runs;dsimp only;exact List.countP_congr fun a hm=>by rw[zx a.id (ha a hm)]
 have LW: ∀t∈(j.dropped x id).aQ,t∈j.aQ∧(t.nm=x.nm-> ¬(x.wt= []∧x.rn=0)):=by
  intro t ht;unfold Js.dropped at ht;dsimp only at ht;split at ht
  ·obtain⟨h1,h2⟩:=aL.1 ht;exact⟨h1,fun e=>absurd e (by simpa using h2)⟩
  ·rename_i hc;exact⟨ht,fun _=>hc⟩
 have fI: ∀i,i∈s.ks.map (·.1)->i≠id-> ∃r∈dropFirst (fun r:Rq=>r.id==id) s.reqs,r.ten=s.ten i:=by intro i hk cA;obtain⟨r,hr,hm,e2⟩:=St.cu hk;refine⟨r,by rw[hd];exact aL.2 ⟨hm,by simpa[e2]using cA⟩, ?_⟩;unfold St.ten;rw[hr]
 refine⟨h.c,h.now,h.begun,h.pull,h.ring, ?_,fun r hr=> ?_, ?_,fun t ht=>h.wt t (LW t ht).1,fun t ht=>by rw[Ro];exact h.rn t (LW t ht).1,fun r hr=> ?_,fun t ht=> ?_,h.hp,h.heap,h.D8,h.oz,h.cnd,h.cin,h.dr⟩
 ·show(j.reqs.filter (fun r=>r.q.id !=id)).map (·.q)=dropFirst (·.id==id) s.reqs;rw[hd,<-h.reqs,List.filter_map];rfl
 ·exact h.al r (aL.1 hr).1
 ·show((if x.wt= []∧x.rn=0 then j.aQ.filter (fun t=>t.nm !=x.nm)else j.aQ).map (·.nm)).Nodup;split
  ·exact(List.filter_sublist.map _).nodup h.nX
  ·exact h.nX
 ·have rL:r∈s.reqs.filter (fun r=>r.id !=id):=by rw[<-hd];exact hr
  obtain⟨Wa,cA⟩:=aL.1 rL;have Gu:r.id≠id:=by simpa using cA
  have hm:=h.ten r Wa;show r.ten∈(if x.wt= []∧x.rn=0 then j.aQ.filter (fun t=>t.nm !=x.nm)else j.aQ).map (·.nm);split
  ·rename_i hc;obtain⟨t,ht,e2⟩:=az.1 hm;refine az.2 ⟨t,aL.2 ⟨ht, ?_⟩,e2⟩
   suffices t.nm≠x.nm by simpa using this
   intro e3;have tF:s.ten r.id=x.nm:=by unfold St.ten;rw[St.tQ hi Wa];dsimp only;rw[<-e2,e3]
   rcases hb r Wa Gu with tC|hbc
   ·rw[St.tZ hi,tF,<-h.wt x hx,hc.1]at tC;cases tC
   ·have h0:=h.rn x hx;rw[hc.2]at h0;have:s.runs x.nm=0:=by omega
    unfold St.runs at this;rw[List.countP_eq_zero]at this;unfold St.count at hbc;rw[List.countP_pos_iff]at hbc;obtain⟨a,pE,Y5⟩:=hbc;have aaC:a.id=r.id:=by simpa using Y5
    exact this a pE (by rw[aaC,tF];simp)
  ·exact hm
 ·obtain⟨We,ZM⟩:=LW t ht;by_cases e3:t.nm=x.nm
  ·have hc:=ZM e3;rw[e3];by_cases zb:x.wt= []
   ·have abM:x.rn≠0:=fun h0=>hc ⟨zb,h0⟩;have h0:=h.rn x hx;have:0<s.runs x.nm:=by omega
    unfold St.runs at this;rw[List.countP_pos_iff]at this;obtain⟨a,pE,Y5⟩:=this;obtain⟨r,hr,e4⟩:=fI a.id (hi.bF a pE) (ha a pE);exact⟨r,hr,by rw[e4];simpa using Y5⟩
   ·rw[h.wt x hx]at zb;obtain⟨i,hm⟩:=List.exists_mem_of_ne_nil _ zb;obtain⟨h5,h6⟩:=St.kT hi hm;have cA:i≠id:=by
     rintro rfl;have:s.waits i=true:=by rw[St.tZ hi,h5];exact hm
     rw[hw]at this;cases this
    obtain⟨r,hr,e4⟩:=fI i h6 cA;exact⟨r,hr,by rw[e4,h5]⟩
  ·obtain⟨r,hr,e4⟩:=h.zf t We;have cA:r.id≠id:=by
    intro e5;apply e3;have:s.ten r.id=r.ten:=by unfold St.ten;rw[St.tQ hi hr]
    rw[e,<-e4,<-this,e5]
   exact⟨r,by show r∈dropFirst (fun r:Rq=>r.id==id) s.reqs;rw[hd];exact aL.2 ⟨hr,by simpa using cA⟩,e4⟩
end Rel
end Pj
namespace Mc
open bG
theorem jk{α:Type} [BEq α] [LawfulBEq α]: ∀{l:List α} {k:Nat} {a:α},l[k]?=some a->l.Nodup->l.erase a=l.eraseIdx k
 | [],k,a,h,_=>by simp at h
 |x::l,0,a,h,_=>by simp at h;subst h;simp
 |x::l,k+1,a,h,hn=>by
  have h':l[k]?=some a:=by simpa using h
  rw[List.nodup_cons]at hn;have cA:x≠a:=fun e=>hn.1 (e▸cJ h');rw[List.erase_cons_tail (by simpa using cA),List.eraseIdx_cons_succ,jk h' hn.2]
namespace St
variable{s:St}
theorem zo{r:List Ln}: ∀{k:Nat} {l:Ln} {t:Bs},r[k]?=some l->l.ten≠t->(r.eraseIdx k).find? (fun l:Ln=>l.ten==t)=r.find? (fun l:Ln=>l.ten==t):=by
 induction r with
 |nil=>intro k l t h;simp at h
 |cons x r ih=>
  intro k l t h cA
  match k with
  |0=>
   simp at h;subst h;rw[List.eraseIdx_zero,List.tail_cons,List.find?_cons];have:(x.ten==t)=false:=by simpa using cA
   rw[this]
  |k+1=>rw[List.eraseIdx_cons_succ,List.find?_cons,List.find?_cons,ih (by simpa using h) cA]
theorem D3{l:Ln}{id:Int}(hid:l.ids.head?=some id):(rest l).map (·.ten)=(if l.ids.erase id= []then []else [l.ten])∧(∀x∈rest l,x.ten=l.ten∧x.ids=l.ids.erase id)∧(rest l= []↔l.ids.erase id= []):=by
 unfold rest;split
 ·rename_i a b t hh;rw[hh]at hid;simp at hid;subst hid;rw[hh];simp
 ·rename_i hh
  match hm:l.ids with
  | []=>rw[hm]at hid;cases hid
  | [a]=>rw[hm]at hid;simp at hid;subst hid;simp
  |a::b::t=>exact absurd hm (hh a b t)
theorem Bg(hi:Inv s){c:Int}{ws:List Int}{k:Nat}{l:Ln}{id:Int}{r:Rq}(hl:s.ring[k]?=some l)(hid:l.ids.head?=some id)(t:Bs):(s.giving c ws k l id r).aS t=if t=l.ten then(s.aS t).erase id else s.aS t:=by
 obtain⟨h1,h2,h3⟩:=D3 hid;have IU:=cJ hl;unfold aS;show(match (s.ring.eraseIdx k++rest l).find? (fun l:Ln=>l.ten==t)with|some l=>l.ids|none=> [])=_;rw[List.find?_append];by_cases e:t=l.ten
 ·subst e;rw[if_pos rfl];have hn:(s.ring.eraseIdx k).find? (fun x:Ln=>x.ten==l.ten)=none:=by
   rw[List.find?_eq_none];intro x hx hp;have kI:x.ten∈(s.ring.eraseIdx k).map (·.ten):=az.2 ⟨x,hx,rfl⟩;have e2:l.ten=x.ten:=by simpa using Eq.symm (by simpa using hp:x.ten=l.ten)
   rw[iz,<-jk (a:=l.ten) (by rw[List.getElem?_map,hl];rfl) hi.fu,<-e2]at kI;exact hi.fu.not_mem_erase kI
  rw[hn,Option.none_or];have h4:=js hi IU;unfold aS at h4;rw[h4];cases hr:rest l with
  |nil=>exact(h3.1 hr).symm
  |cons x t=>obtain⟨h5,h6⟩:=h2 x (by rw[hr];exact bY ..);rw[List.find?_cons,h5];simp[h6]
 ·rw[if_neg e,zo hl (Ne.symm e)];have hn:(rest l).find? (fun x:Ln=>x.ten==t)=none:=by
   rw[List.find?_eq_none];intro x hx hp;exact e ((by simpa using hp:x.ten=t)▸(h2 x hx).1)
  rw[hn,Option.or_none];rfl
theorem D4(hi:Inv s){c:Int}{ws:List Int}{k:Nat}{l:Ln}{id:Int}{r:Rq}(hl:s.ring[k]?=some l)(hid:l.ids.head?=some id):(s.giving c ws k l id r).ring.map (·.ten)=(s.ring.map (·.ten)).erase l.ten++(if l.ids.erase id= []then []else [l.ten]):=by show(s.ring.eraseIdx k++rest l).map (·.ten)=_;rw[aD,(D3 hid).1,iz,jk (a:=l.ten) (by rw[List.getElem?_map,hl];rfl) hi.fu]
end St
end Mc
namespace Pj
open Mc bG
namespace Rel
variable{g g':Gh}{j:Js}{s:St}
theorem gave(h:Rel g j s)(hi:Inv s){c:Int}{ws:List Int}{k:Nat}{l:Ln}{id:Int}{r:Rq}(hw:s.wait=c::ws)(hl:s.ring[k]?=some l)(hid:l.ids.head?=some id)(hr:s.req id=some r){x:Tr}(hx:x∈j.aQ)(e:x.nm=l.ten){a:At}(ea:a=⟨id,r.n+1,c,s.now,s.now+s.c.le⟩)(hg: ∀y∈s.ah,g'.sr (key y)=g.sr (key y))(Xs:g'.sr (key a)=s.begun+1)(hp:List At)(h1:hp.Perm (a::j.hp))(h2:Hp.Heap (fJ g') hp hp.length):Rel g' (j.gave x a hp) (s.giving c ws k l id r):=by
 obtain⟨IY,om,_⟩:=St.lZ hr;have iL:=hi.rid;unfold St.ks at iL;rw[aB]at iL;have Uo:a.id=id:=by rw[ea]
 have en:a.n=r.n+1:=by rw[ea]
 have CK:(s.giving c ws k l id r).ah=s.ah++ [a]:=by rw[ea];rfl
 have IU:=cJ hl;have zx:s.ten id=l.ten:=St.yM hi ((hi.ring l IU).2 id (List.mem_of_head? hid));have UL: ∀i,(s.giving c ws k l id r).ten i=s.ten i:=fun i=>St.sx (s:=s) id (fun r=>{r with n:=r.n+1}) (fun _=>rfl) (fun _=>rfl) i;have zb:x.wt=l.ids:=by rw[h.wt x hx,e,St.js hi IU]
 have em:(j.gave x a hp).aQ.map (·.nm)=j.aQ.map (·.nm):=fR (fun t:Tr=>t.nm) (fun _ _ _=>rfl);have ht: ∀t∈(j.gave x a hp).aQ,∃y∈j.aQ,t=if y.nm=x.nm then{y with wt:=y.wt.erase a.id,rn:=y.rn+1}else y:=by intro t ht;obtain⟨y,hy,e⟩:=az.1 ht;exact⟨y,hy,e.symm⟩
 have Ro: ∀t,(s.giving c ws k l id r).runs t=s.runs t+if l.ten=t then 1 else 0:=by
  intro t;unfold St.runs;rw[CK,List.countP_append];congr 1
  ·exact List.countP_congr fun y _=>by rw[UL]
  ·rw[List.countP_singleton,UL,Uo,zx];simp
 refine⟨h.c,h.now,by show j.begun+1=s.begun+1;rw[h.begun],by show j.pull.tail=ws;rw[h.pull,hw];rfl, ?_, ?_,fun q hq=> ?_,by rw[em];exact h.nX,fun t za=> ?_,fun t za=> ?_,fun q hq=> ?_,fun t za=> ?_, ?_,h2, ?_,fun y hy=> ?_,h.cnd,h.cin,h.dr⟩
 ·rw[St.D4 hi hl hid];show j.ring.erase x.nm++(if x.wt.erase a.id= []then []else [x.nm])=_;rw[h.ring,e,zb,Uo]
 ·show(upd (fun r:Rr=>r.q.id) a.id (fun r=>⟨{r.q with n:=r.q.n+1},r.al++ [a.n]⟩) j.reqs).map (·.q)=aK (·.id==id) (fun r=>{r with n:=r.n+1}) s.reqs;rw[bK (fun r:Rq=>r.id) id _ iL,<-h.reqs,Uo];unfold upd;rw[aB,aB];refine bz fun r _=> ?_;simp only[Function.comp_def,beq_iff_eq];split<;>rfl
 ·unfold St.nums;rw[CK,List.filter_append,aD];rcases Bt hq with⟨hq,cA⟩|⟨y,hy,hk,rfl⟩
  ·have: [a].filter (fun z:At=>z.id==q.q.id)= []:=by simp[Ne.symm cA]
   rw[this,List.map_nil,List.append_nil];exact h.al q hq
  ·dsimp only at hk⊢;have: [a].filter (fun z:At=>z.id==y.q.id)= [a]:=by simp[hk]
   rw[this];rw[h.al y hy];rfl
 ·obtain⟨y,hy,rfl⟩:=ht t za;rw[St.Bg hi hl hid];by_cases e2:y.nm=x.nm
  ·rw[if_pos e2];dsimp only;rw[if_pos (e2.trans e),h.wt y hy,Uo]
  ·rw[if_neg e2,if_neg (fun h=>e2 (h.trans e.symm)),h.wt y hy]
 ·obtain⟨y,hy,rfl⟩:=ht t za;rw[Ro];have:=h.rn y hy;by_cases e2:y.nm=x.nm
  ·rw[if_pos e2];dsimp only;rw[if_pos (by rw[e2,e])];omega
  ·rw[if_neg e2,if_neg (fun h=>e2 (h.symm.trans e.symm))];omega
 ·rw[em];rcases bJ (show q∈aK (·.id==id) (fun r=>({r with n:=r.n+1}:Rq)) s.reqs from hq)with hq|⟨y,hy,_,rfl⟩
  ·exact h.ten q hq
  ·exact h.ten y hy
 ·obtain⟨y,hy,rfl⟩:=ht t za;obtain⟨q,hq,e3⟩:=h.zf y hy;have: ∃q'∈(s.giving c ws k l id r).reqs,q'.ten=q.ten:=by
   show∃q'∈aK (·.id==id) (fun r=>({r with n:=r.n+1}:Rq)) s.reqs,q'.ten=q.ten;rw[bK (fun r:Rq=>r.id) id _ iL];refine⟨_,az.2 ⟨q,hq,rfl⟩, ?_⟩;split<;>rfl
  obtain⟨q',Kt,e4⟩:=this;refine⟨q',Kt,e4.trans (e3.trans ?_)⟩;split<;>rfl
 ·rw[CK];exact h1.trans ((h.hp.cons a).trans (List.perm_append_singleton a s.ah).symm)
 ·rw[CK,aD,List.pairwise_append];have hs:s.ah.map (fun a=>g'.sr (key a))=s.ah.map (fun a=>g.sr (key a)):=bz fun y hy=>hg y hy;refine⟨by rw[hs];exact h.D8,by simp,fun u hu v hv=> ?_⟩;obtain⟨y,hy,rfl⟩:=az.1 hu;simp at hv;subst hv;have:=(h.oz y hy).2;rw[hg y hy,Xs];omega
 ·rw[CK]at hy;show _∧_<=((s.begun+1:Nat):Int);rcases List.mem_append.1 hy with hy|hy
  ·have:=h.oz y hy;rw[hg y hy];omega
  ·obtain rfl:=b9.1 hy;rw[Xs];omega
def renew(k:Int×Int)(v:Int)(y:At):At:=if key y=k then{y with fx:=v}else y
theorem gi(k:Int×Int)(v:Int)(y:At):key (renew k v y)=key y∧(renew k v y).id=y.id∧(renew k v y).n=y.n∧(renew k v y).conn=y.conn:=by unfold renew;split<;>exact⟨rfl,rfl,rfl,rfl⟩
theorem TG(h:Rel g j s)(k:Int×Int)(v:Int)(hp:List At)(h1:hp.Perm (j.hp.map (renew k v)))(h2:Hp.Heap (fJ g) hp hp.length):Rel g {j with hp:=hp} {s with ah:=s.ah.map (renew k v)}:=by
 refine⟨h.c,h.now,h.begun,h.pull,h.ring,h.reqs,fun r hr=> ?_,h.nX,h.wt,fun t ht=> ?_,h.ten,h.zf,h1.trans (h.hp.map _),h2, ?_,fun y hy=> ?_,h.cnd,h.cin,h.dr⟩
 ·rw[h.al r hr];unfold St.nums;dsimp only;rw[List.filter_map,aB];have e1:((fun x:At=>x.id==r.q.id)∘renew k v)=fun x=>x.id==r.q.id:=by funext y;simp only[Function.comp_def,(gi k v y).2.1]
  rw[e1];exact bz fun y _=>by simp only[Function.comp_def,(gi k v y).2.2.1]
 ·rw[h.rn t ht];unfold St.runs;dsimp only;rw[List.countP_map];congr 1;exact List.countP_congr fun y _=>by simp only[Function.comp_def,(gi k v y).2.1];exact Iff.rfl
 ·show((s.ah.map (renew k v)).map _).Pairwise _;rw[aB];have:s.ah.map ((fun a=>g.sr (key a))∘renew k v)=s.ah.map fun a=>g.sr (key a):=bz fun y _=>by simp only[Function.comp_def,(gi k v y).1]
  rw[this];exact h.D8
 ·obtain⟨z,hz,rfl⟩:=az.1 hy;rw[(gi k v z).1];exact h.oz z hz
end Rel
def Js.more(j:Js)(r:Rq):Js:=
 {j with reqs:=j.reqs++ [⟨r, []⟩],aQ:=if r.ten∈j.aQ.map (·.nm)then j.aQ else j.aQ++ [⟨r.ten, [],0⟩]}
namespace Rel
variable{g g':Gh}{j:Js}{s:St}
theorem more(h:Rel g j s)(hi:Inv s)(r:Rq)(hr:s.req r.id=none):Rel g (j.more r) (s.more r):=by
 obtain⟨hc,hw,hk⟩:=St.fresh hi hr;have zx: ∀i,i≠r.id->(s.more r).ten i=s.ten i:=by
  intro i cA;unfold St.ten St.req St.more;dsimp only;rw[List.find?_append];cases hf:s.reqs.find? (fun x=>x.id==i)with
  |some x=>rfl
  |none=>simp[Ne.symm cA]
 have Y8: ∀a∈s.ah,a.id≠r.id:=fun a ha e=>hk (e▸hi.bF a ha);have Ro: ∀t,(s.more r).runs t=s.runs t:=fun t=>by unfold St.runs;exact List.countP_congr fun a ha=>by rw[zx a.id (Y8 a ha)]
 have LW: ∀t∈(j.more r).aQ,t∈j.aQ∨(t=⟨r.ten, [],0⟩∧r.ten∉j.aQ.map (·.nm)):=by
  intro t ht;unfold Js.more at ht;dsimp only at ht;split at ht
  ·exact .inl ht
  ·rename_i hn;rcases List.mem_append.1 ht with ht|ht
   ·exact .inl ht
   ·exact .inr ⟨b9.1 ht,hn⟩
 have UD:r.ten∉j.aQ.map (·.nm)->s.aS r.ten= []∧s.runs r.ten=0:=by
  intro hn;constructor
  ·apply Classical.byContradiction;intro cA;obtain⟨i,hm⟩:=List.exists_mem_of_ne_nil _ cA;obtain⟨h5,h6⟩:=St.kT hi hm;obtain⟨q,hq,wE,e⟩:=St.cu h6;apply hn;have:=h.ten q wE;unfold St.ten at h5;rw[hq]at h5;dsimp only at h5;rw[h5]at this;exact this
  ·unfold St.runs;rw[List.countP_eq_zero];intro a ha e;obtain⟨q,hq,wE,_⟩:=St.cu (hi.bF a ha);apply hn;have:=h.ten q wE;unfold St.ten at e;rw[hq]at e;rw[show q.ten=r.ten by simpa using e]at this;exact this
 refine⟨h.c,h.now,h.begun,h.pull,h.ring, ?_,fun q hq=> ?_, ?_,fun t ht=> ?_,fun t ht=> ?_,fun q hq=> ?_,fun t ht=> ?_,h.hp,h.heap,h.D8,h.oz,h.cnd,h.cin,h.dr⟩
 ·show(j.reqs++ [(⟨r, []⟩:Rr)]).map (fun r:Rr=>r.q)=s.reqs++ [r];rw[aD,h.reqs];rfl
 ·rcases List.mem_append.1 hq with hq|hq
  ·exact h.al q hq
  ·obtain rfl:=b9.1 hq;show []=s.nums r.id;unfold St.nums;have:s.ah.filter (fun a=>a.id==r.id)= []:=List.filter_eq_nil_iff.2 fun a ha=>by simpa using Y8 a ha
   rw[this];rfl
 ·show((if r.ten∈j.aQ.map (·.nm)then j.aQ else j.aQ++ [⟨r.ten, [],0⟩]).map (·.nm)).Nodup;split
  ·exact h.nX
  ·rename_i hn;rw[aD,List.nodup_append];refine⟨h.nX,by simp,fun u hu v hv e=>hn ?_⟩;simp at hv;rw[<-hv,<-e];exact hu
 ·show t.wt=s.aS t.nm;rcases LW t ht with ht|⟨rfl,hn⟩
  ·exact h.wt t ht
  ·exact(UD hn).1.symm
 ·rw[Ro];rcases LW t ht with ht|⟨rfl,hn⟩
  ·exact h.rn t ht
  ·show(0:Int)=s.runs r.ten;rw[(UD hn).2];rfl
 ·have oq: ∀u,u∈j.aQ.map (·.nm)∨u=r.ten->u∈(j.more r).aQ.map (·.nm):=by
   intro u hu;show u∈(if r.ten∈j.aQ.map (·.nm)then j.aQ else j.aQ++ [⟨r.ten, [],0⟩]).map (·.nm);split
   ·rename_i Uy;rcases hu with hu|hu
    ·exact hu
    ·rw[hu];exact Uy
   ·rw[aD];rcases hu with hu|hu
    ·exact List.mem_append_left _ hu
    ·exact List.mem_append_right _ (by simp[hu])
  apply oq;rcases List.mem_append.1 hq with hq|hq
  ·exact .inl (h.ten q hq)
  ·exact .inr (by rw[b9.1 hq])
 ·rcases LW t ht with ht|⟨rfl,hn⟩
  ·obtain⟨q,hq,e⟩:=h.zf t ht;exact⟨q,List.mem_append_left _ hq,e⟩
  ·exact⟨r,List.mem_append_right _ (b9.2 rfl),rfl⟩
theorem aq(h:Rel g j s)(cs:List Kn)(l:List Cn)(h1:(cs.map (·.n)).Nodup)(h2: ∀k∈cs,k.n∈l.map (·.n))(h3: ∀c,({j with bu:=cs}:Js).drains c=({s with aq:=l}:St).drains c):Rel g {j with bu:=cs} {s with aq:=l}:=
 ⟨h.c,h.now,h.begun,h.pull,h.ring,h.reqs,h.al,h.nX,h.wt,h.rn,h.ten,h.zf,h.hp,h.heap,h.D8,h.oz,h1,h2,h3⟩
theorem kept(h:Rel g j s)(c:Int)(p:Nat)(hn:c∉j.bu.map (·.n))(hc:c∈s.aq.map (·.n)):Rel g {j with bu:=j.bu++ [⟨c,p, [],false⟩]} s:=by
 refine h.aq (j.bu++ [⟨c,p, [],false⟩]) s.aq ?_ (fun k hk=> ?_) (fun d=> ?_)
 ·rw[aD,List.nodup_append];refine⟨h.cnd,by simp,fun u hu v hv e=>hn ?_⟩;simp at hv;rw[<-hv,<-e];exact hu
 ·rcases List.mem_append.1 hk with hk|hk
  ·exact h.cin k hk
  ·rw[b9.1 hk];exact hc
 ·have:=h.dr d;show _=s.drains d;rw[<-this];unfold Js.drains;dsimp only;rw[List.find?_append];cases hf:j.bu.find? (fun k=>k.n==d)with
  |some k=>rfl
  |none=>
   by_cases e:c=d
   ·subst e;simp
   ·simp[e]
theorem CQ{l:List Kn}{c d:Int}(cA:d≠c):(l.filter (fun k=>k.n !=c)).find? (fun k:Kn=>k.n==d)=l.find? (fun k=>k.n==d):=by
 rw[List.find?_filter];congr 1;funext k;by_cases e2:k.n=d
 ·simp[e2,cA]
 ·simp[e2]
theorem pC{l:List Kn}{c:Int}:(l.filter (fun k=>k.n !=c)).find? (fun k:Kn=>k.n==c)=none:=by rw[List.find?_eq_none];intro k hk;have:=(aL.1 hk).2;simpa using this
theorem W6(h:Rel g j s)(c:Int)(hd:j.drains c=false):Rel g {j with bu:=j.bu.filter (fun k=>k.n !=c)} s:=by
 refine h.aq (j.bu.filter (fun k=>k.n !=c)) s.aq ((List.filter_sublist.map _).nodup h.cnd) (fun k hk=>h.cin k (aL.1 hk).1) (fun d=> ?_);have:=h.dr d;show _=s.drains d;rw[<-this];by_cases e:d=c
 ·subst e;rw[hd];unfold Js.drains;dsimp only;rw[pC]
 ·unfold Js.drains;dsimp only;rw[CQ e]
theorem forget(h:Rel g j s)(c:Int):Rel g {j with bu:=j.bu.filter (fun k=>k.n !=c)} {s with aq:=s.aq.filter (·.n !=c)}:=by
 refine h.aq (j.bu.filter (fun k=>k.n !=c)) (s.aq.filter (·.n !=c)) ((List.filter_sublist.map _).nodup h.cnd) (fun k hk=> ?_) (fun d=> ?_)
 ·obtain⟨h1,h2⟩:=aL.1 hk;obtain⟨x,hx,e⟩:=az.1 (h.cin k h1);exact az.2 ⟨x,aL.2 ⟨hx,by rw[e];exact h2⟩,e⟩
 ·have:=h.dr d;by_cases e:d=c
  ·subst e;unfold Js.drains St.drains;dsimp only;rw[pC];have:(s.aq.filter (fun x=>x.n !=d)).find? (fun x:Cn=>x.n==d)=none:=by
    rw[List.find?_eq_none];intro k hk;have:=(aL.1 hk).2;simpa using this
   rw[this]
  ·unfold Js.drains St.drains at this⊢;dsimp only;rw[CQ e,this,List.find?_filter];have:(fun a:Cn=>decide ((a.n !=c)=true∧(a.n==d)=true))=fun a=>a.n==d:=by
    funext k;by_cases e2:k.n=d
    ·simp[e2,e]
    ·simp[e2]
   rw[this]
theorem bytes(h:Rel g j s)(f:Kn->Kn)(h1: ∀k,(f k).n=k.n)(h2: ∀k,(f k).dr=k.dr)(c:Int):Rel g {j with bu:=upd (fun k:Kn=>k.n) c f j.bu} s:=by
 have em:(upd (fun k:Kn=>k.n) c f j.bu).map (·.n)=j.bu.map (·.n):=fR (fun k:Kn=>k.n) (fun k _ _=>h1 k);refine h.aq (upd (fun k:Kn=>k.n) c f j.bu) s.aq (by rw[em];exact h.cnd) (fun k hk=> ?_) (fun d=> ?_)
 ·have:k.n∈(upd (fun k:Kn=>k.n) c f j.bu).map (·.n):=az.2 ⟨k,hk,rfl⟩;rw[em]at this;obtain⟨y,hy,e⟩:=az.1 this;rw[<-e];exact h.cin y hy
 ·show _=s.drains d;rw[<-h.dr d];unfold Js.drains upd;dsimp only;rw[List.find?_map];have e:((fun k:Kn=>k.n==d)∘fun x=>if x.n=c then f x else x)=fun k=>k.n==d:=by
   funext k;simp only[Function.comp_def];split
   ·rw[h1]
   ·rfl
  rw[e];cases hf:j.bu.find? (fun k=>k.n==d)with
  |none=>rfl
  |some k=>
   simp only[Option.map_some];split
   ·exact h2 k
   ·rfl
theorem drain(h:Rel g j s)(hi:Inv s)(c:Int)(hc:c∈j.bu.map (·.n)):Rel g {j with bu:=upd (fun k:Kn=>k.n) c (fun k=>{k with dr:=true}) j.bu} {s with aq:=aK (fun x=>x.n==c) (fun x=>{x with drains:=true}) s.aq}:=by
 have em:(upd (fun k:Kn=>k.n) c (fun k=>{k with dr:=true}) j.bu).map (·.n)=j.bu.map (·.n):=fR (fun k:Kn=>k.n) (fun _ _ _=>rfl);have em':(aK (fun x=>x.n==c) (fun x=>({x with drains:=true}:Cn)) s.aq).map (·.n)=s.aq.map (·.n):=bn _ (fun x:Cn=>{x with drains:=true}) (·.n) (fun _=>rfl) _;refine h.aq (upd (fun k:Kn=>k.n) c (fun k=>{k with dr:=true}) j.bu) _ (by rw[em];exact h.cnd) (fun k hk=> ?_) (fun d=> ?_)
 ·have:k.n∈(upd (fun k:Kn=>k.n) c (fun k=>{k with dr:=true}) j.bu).map (·.n):=az.2 ⟨k,hk,rfl⟩;rw[em]at this;obtain⟨y,hy,e⟩:=az.1 this;rw[em',<-e];exact h.cin y hy
 ·have hd:=h.dr d;unfold Js.drains St.drains upd at*;dsimp only;rw[bK (fun x:Cn=>x.n) c _ hi.cn,List.find?_map,List.find?_map];have e1:((fun k:Kn=>k.n==d)∘fun x=>if x.n=c then({x with dr:=true}:Kn)else x)=fun k=>k.n==d:=by
   funext k;simp only[Function.comp_def];split<;>rfl
  have e2:((fun k:Cn=>k.n==d)∘fun x:Cn=>if(x.n==c)=true then({x with drains:=true}:Cn)else x)=fun k=>k.n==d:=by funext k;simp only[Function.comp_def];split<;>rfl
  rw[e1,e2];by_cases e:d=c
  ·subst e;obtain⟨k,hk,ek⟩:=az.1 hc;have Rl:(j.bu.find? (fun k=>k.n==d)).isSome:=List.find?_isSome.2 ⟨k,hk,by simpa using ek⟩;obtain⟨x,hx,ex⟩:=az.1 (h.cin k hk);have Rs:(s.aq.find? (fun k=>k.n==d)).isSome:=List.find?_isSome.2 ⟨x,hx,by simp[ex,ek]⟩;obtain⟨k',mQ⟩:=Option.isSome_iff_exists.1 Rl;obtain⟨x',kI⟩:=Option.isSome_iff_exists.1 Rs;have ek':k'.n=d:=by simpa using List.find?_some mQ
   have ex':x'.n=d:=by simpa using List.find?_some kI
   rw[mQ,kI];simp[ek',ex']
  ·cases hf:j.bu.find? (fun k=>k.n==d)with
   |none=>
    rw[hf]at hd;cases Gn:s.aq.find? (fun k=>k.n==d)with
    |none=>rfl
    |some x=>
     rw[Gn]at hd;have ex:x.n≠c:=by rw[show x.n=d by simpa using List.find?_some Gn];exact e
     simp[ex];simpa using hd
   |some k=>
    rw[hf]at hd;have ek:k.n≠c:=by rw[show k.n=d by simpa using List.find?_some hf];exact e
    cases Gn:s.aq.find? (fun k=>k.n==d)with
    |none=>rw[Gn]at hd;simp[ek];simpa using hd
    |some x=>
     rw[Gn]at hd;have ex:x.n≠c:=by rw[show x.n=d by simpa using List.find?_some Gn];exact e
     simp[ek,ex];exact hd
end Rel
end Pj
namespace Mc
open bG
def Best(now:Int)(l:List At)(b:Option (Nat×Int)):Prop:=
 match b with
 |none=> ∀(k:Nat) (a:At),l[k]?=some a->now<a.fx
 |some (i,t)=>t<=now∧(∃a,l[i]?=some a∧a.fx=t)∧ ∀(k:Nat) (a:At),l[k]?=some a->a.fx<=now->t<a.fx∨(t=a.fx∧i<=k)
theorem zM(now:Int): ∀(l pre:List At) (b:Option (Nat×Int)),Best now pre b->Best now (pre++l) (St.lN now l pre.length b)
 | [],pre,b,h=>by rw[List.append_nil];exact h
 |a::l,pre,b,h=>by
  unfold St.lN;have e:pre++a::l=(pre++ [a])++l:=by simp
  rw[e];have hl:(pre++ [a]).length=pre.length+1:=by simp
  rw[<-hl];refine zM now l (pre++ [a]) _ ?_;have at': ∀k x,(pre++ [a])[k]?=some x->pre[k]?=some x∨(k=pre.length∧x=a):=by
   intro k x hx;rcases Nat.lt_or_ge k pre.length with h|h
   ·rw[List.getElem?_append_left h]at hx;exact .inl hx
   ·rw[List.getElem?_append_right h]at hx
    match hk:k-pre.length with
    |0=>rw[hk]at hx;simp at hx;exact .inr ⟨by omega,hx.symm⟩
    |m+1=>rw[hk]at hx;simp at hx
  have ata:(pre++ [a])[pre.length]?=some a:=by simp
  by_cases ht:a.fx<=now
  ·rw[if_pos ht]
   match b,h with
   |none,h=>
    refine⟨ht,⟨a,ata,rfl⟩,fun k x hx hn=> ?_⟩;rcases at' k x hx with hx|⟨rfl,rfl⟩
    ·have:=h k x hx;omega
    ·right;exact⟨rfl,af _⟩
   |some (i,t),⟨h1,⟨y,hy,ey⟩,h3⟩=>
    have aN:i<pre.length:=(cz.1 hy).1;by_cases h4:a.fx<t
    ·simp only[if_pos h4];refine⟨ht,⟨a,ata,rfl⟩,fun k x hx hn=> ?_⟩;rcases at' k x hx with hx|⟨rfl,rfl⟩
     ·have:=h3 k x hx hn;left;omega
     ·right;exact⟨rfl,af _⟩
    ·simp only[if_neg h4];refine⟨h1,⟨y,by rw[List.getElem?_append_left aN];exact hy,ey⟩,fun k x hx hn=> ?_⟩;rcases at' k x hx with hx|⟨rfl,rfl⟩
     ·exact h3 k x hx hn
     ·omega
  ·rw[if_neg ht]
   match b,h with
   |none,h=>
    intro k x hx;rcases at' k x hx with hx|⟨rfl,rfl⟩
    ·exact h k x hx
    ·omega
   |some (i,t),⟨h1,⟨y,hy,ey⟩,h3⟩=>
    have aN:i<pre.length:=(cz.1 hy).1;refine⟨h1,⟨y,by rw[List.getElem?_append_left aN];exact hy,ey⟩,fun k x hx hn=> ?_⟩;rcases at' k x hx with hx|⟨rfl,rfl⟩
    ·exact h3 k x hx hn
    ·omega
namespace St
variable{s:St}
theorem CH:Best s.now s.ah (lN s.now s.ah 0 none):=by have:=zM s.now s.ah [] none (fun k a h=>by simp at h);simpa using this
theorem GN{f:Nat}(h:s.due=none):bV f s=s:=by
 match f with
 |0=>rfl
 |f+1=>unfold bV;rw[h]
theorem GP{f i:Nat}{a:At}(h:s.due=some i)(ha:s.ah[i]?=some a):bV (f+1) s=bV f (((s.say a.conn (aU a.id a.n)).aZ i).again a.id true):=by
 conv=>lhs;unfold bV
 rw[h];dsimp only;rw[ha]
theorem Eg{f:Nat}{id:Int}(h:s.nums id= []):stops f s id=s:=by
 match f with
 |0=>rfl
 |f+1=>
  unfold stops;have:s.ah.findIdx? (·.id==id)=none:=by rw[List.findIdx?_eq_none_iff];intro a ha;unfold nums at h;have:=List.filter_eq_nil_iff.1 (List.map_eq_nil_iff.1 h) a ha;simpa using this
  rw[this]
theorem KN{id n:Int}{t:List Int}(h:s.nums id=n::t): ∃i a,s.ah.findIdx? (·.id==id)=some i∧s.ah[i]?=some a∧a.id=id∧a.n=n:=by
 unfold nums at h;revert h;generalize s.ah=l;intro h
 induction l with
 |nil=>simp at h
 |cons x l ih=>
  rw[List.filter_cons]at h;by_cases e:(x.id==id)=true
  ·rw[if_pos e,List.map_cons]at h;refine⟨0,x,by rw[List.findIdx?_cons,e];rfl,rfl,by simpa using e,(List.cons.inj h).1⟩
  ·rw[if_neg e]at h;obtain⟨i,a,h1,h2,h3,h4⟩:=ih h;have e':(x.id==id)=false:=by simpa using e
   exact⟨i+1,a,by rw[List.findIdx?_cons,e',h1];rfl,by simpa using h2,h3,h4⟩
theorem Ho{f i:Nat}{id:Int}{a:At}(h:s.ah.findIdx? (·.id==id)=some i)(ha:s.ah[i]?=some a):stops (f+1) s id=stops f ((s.say a.conn (aU id a.n)).aZ i) id:=by
 conv=>lhs;unfold stops
 rw[h];dsimp only;rw[ha]
def at?(s:St)(k:Int×Int):Option Nat:=s.ah.findIdx? (fun a=>decide ((a.id,a.n)=k))
theorem YE(ho:Ok s){a:At}(h:a∈s.ah): ∃i,s.at? (a.id,a.n)=some i∧s.ah[i]?=some a:=by
 have:(s.at? (a.id,a.n)).isSome:=by unfold at?;rw[List.findIdx?_isSome,List.any_eq_true];exact⟨a,h,by simp⟩
 obtain⟨i,hi⟩:=Option.isSome_iff_exists.1 this;obtain⟨b,hb,e⟩:=fF hi;have e':(b.id,b.n)=(a.id,a.n):=by simpa using e
 refine⟨i,hi, ?_⟩;rw[hb,bC (k:=fun a:At=>(a.id,a.n)) ho.key (cJ hb) h e']
theorem I5(ho:Ok s){i k:Nat}{a b:At}(h1:s.ah[i]?=some a)(h2:s.ah[k]?=some b)(e:(a.id,a.n)=(b.id,b.n)):i=k:=by
 have h:=List.pairwise_iff_getElem.1 ho.key;obtain⟨hi,rfl⟩:=cz.1 h1;obtain⟨hk,rfl⟩:=cz.1 h2;rcases Nat.lt_trichotomy i k with h'|h'|h'
 ·exact absurd (by rw[List.getElem_map,List.getElem_map];exact e) (h i k (by simpa using hi) (by simpa using hk) h')
 ·exact h'
 ·exact absurd (by rw[List.getElem_map,List.getElem_map];exact e.symm) (h k i (by simpa using hk) (by simpa using hi) h')
theorem Ti(ho:Ok s){i:Nat}{a:At}(h:s.ah[i]?=some a):s.mine a.conn a.id a.n=some i:=by
 obtain⟨k,hk⟩: ∃k,s.Ck a.id a.n=some k:=by
  have:(s.Ck a.id a.n).isSome:=by unfold Ck;rw[List.findIdx?_isSome,List.any_eq_true];exact⟨a,cJ h,by simp⟩
  exact Option.isSome_iff_exists.1 this
 obtain⟨b,hb,e⟩:=fF hk;simp only[bm,beq_iff_eq]at e;have:i=k:=I5 ho h hb (by rw[e.1,e.2]);subst this;rw[hb]at h;cases h;unfold mine;rw[hk];dsimp only;rw[hb];simp
theorem KM(ho:Ok s){c id n:Int}(h:s.mine c id n=none): ∀a∈s.ah,¬(a.id=id∧a.n=n∧a.conn=c):=by intro a ha e;obtain⟨i,hi⟩:=List.getElem?_of_mem ha;have:=Ti ho hi;rw[e.1,e.2.1,e.2.2,h]at this;cases this
def JP(s:St)(k:Int×Int):St:=match s.at? k with|some i=>s.aZ i|none=>s
theorem vq(ho:Ok s){i:Nat}{a:At}(h:s.ah[i]?=some a):s.JP (a.id,a.n)=s.aZ i:=by obtain⟨k,h1,h2⟩:=YE ho (cJ h);have:i=k:=I5 ho h h2 rfl;subst this;unfold JP;rw[h1]
end St
end Mc
namespace Pj
open Mc bG
namespace Rel
variable{g:Gh}{j:Js}{s:St}
theorem WV(h:Rel g j s){i k:Nat}{a b:At}(h1:s.ah[i]?=some a)(h2:s.ah[k]?=some b):i<k->g.sr (key a)<g.sr (key b):=by intro aN;have hp:=List.pairwise_iff_getElem.1 h.D8;obtain⟨hi,rfl⟩:=cz.1 h1;obtain⟨hk,rfl⟩:=cz.1 h2;have:=hp i k (by simpa using hi) (by simpa using hk) aN;rw[List.getElem_map,List.getElem_map]at this;exact this
theorem CI(h:Rel g j s)(hh: ∀a,j.hp.head?=some a->s.now<a.fx):s.due=none:=by
 have hb:=St.CH (s:=s);unfold St.due;cases hd:St.lN s.now s.ah 0 none with
 |none=>rfl
 |some x=>
  obtain⟨i,t⟩:=x;rw[hd]at hb;obtain⟨h1,⟨a,ha,ea⟩,_⟩:=hb;exfalso;have hm:a∈j.hp:=h.hp.mem_iff.2 (cJ ha);obtain⟨k,hk⟩:=List.getElem?_of_mem hm;cases hp:j.hp with
  |nil=>rw[hp]at hm;cases hm
  |cons b l=>have h2:=hh b (by rw[hp];rfl);have aaQ:=(cz.1 hk).1;have:=h.heap.least (iT g) (af _) k aaQ b a (by rw[hp];rfl) hk;unfold fJ at this;omega
theorem Nc(h:Rel g j s){b:At}(hb:j.hp.head?=some b)(ht:b.fx<=s.now): ∃i,s.due=some i∧s.ah[i]?=some b:=by
 have IK:=St.CH (s:=s);have hbm:b∈j.hp:=List.mem_of_head? hb;obtain⟨k,hk⟩:=List.getElem?_of_mem (h.hp.mem_iff.1 hbm);unfold St.due;cases hd:St.lN s.now s.ah 0 none with
 |none=>rw[hd]at IK;have:=IK k b hk;omega
 |some x=>
  obtain⟨i,t⟩:=x;rw[hd]at IK;obtain⟨h1,⟨a,ha,ea⟩,h3⟩:=IK;refine⟨i,rfl, ?_⟩;have hm:a∈j.hp:=h.hp.mem_iff.2 (cJ ha);obtain⟨m,EB⟩:=List.getElem?_of_mem hm;have aaU:=(cz.1 EB).1;have hl:=h.heap.least (iT g) (af _) m aaU b a (by rw[<-List.head?_eq_getElem?];exact hb) EB;have h4:=h3 k b hk ht;unfold fJ at hl;have hik: ¬i<k:=fun aN=>by have:=h.WV ha hk aN;omega
  have:i=k:=by omega
  subst this;exact hk
end Rel
end Pj
namespace Mc
open bG
namespace St
variable{s:St}
def slow(s:St)(a:At):Bool:=decide (s.c.he<=s.now-a.sY) &&(match s.req a.id with|some r=> !r.hedged|none=>false)
def cF(s:St)(a:At):St:=(s.bj a.id (fun r=>{r with hedged:=true})).aX a.id false
theorem lS(a:At):(s.cF a).ah=s.ah∧(s.cF a).c=s.c∧(s.cF a).now=s.now∧(s.cF a).wait=s.wait∧(s.cF a).aq=s.aq∧(s.cF a).out=s.out:=by obtain⟨_,e1,e2,e3,e4,e5,e6,e7⟩:=fW (s:=s.bj a.id (fun r=>{r with hedged:=true})) a.id false;exact⟨e1,e6,e7,e3,e4,e5⟩
theorem jz(hi:Inv s)(id i:Int)(f:Rq->Rq)(h1: ∀r,(f r).id=r.id):(s.bj id f).req i=(s.req i).map (fun r=>if i=id then f r else r):=by
 have iL:=hi.rid;unfold ks at iL;rw[aB]at iL;unfold req bj;dsimp only;rw[bK (fun r:Rq=>r.id) id f iL,List.find?_map];have e:((fun x:Rq=>x.id==i)∘fun x=>if(x.id==id)=true then f x else x)=fun x=>x.id==i:=by
  funext x;simp only[Function.comp_def];split
  ·rw[h1]
  ·rfl
 rw[e];cases hf:s.reqs.find? (fun x=>x.id==i)with
 |none=>rfl
 |some r=>
  have:r.id=i:=by simpa using List.find?_some hf
  simp only[Option.map_some,this,beq_iff_eq]
theorem Al(id i:Int)(f:Bool):(s.aX id f).req i=s.req i:=by unfold req;rw[(fW (s:=s) id f).2.2.1]
theorem C2(hi:Inv s){a:At}(ha:a∈s.ah)(hw:s.waits a.id=false):Inv (s.cF a):=by refine je (jC hi a.id (fun r=>{r with hedged:=true}) (fun _=>⟨rfl,rfl⟩)) ?_ hw _;rw[tR a.id (fun r=>{r with hedged:=true}) (fun _=>⟨rfl,rfl⟩)];exact hi.bF a ha
theorem mO: ∀(l:List At) (s s0:St),Inv s->Ok s->(∀a∈l,a∈s.ah)->(l.map fun a=>(a.id,a.n)).Nodup->s.c.he≠0->0<=s.c.he->s0.c=s.c->s0.now=s.now->(∀a∈l,(s0.req a.id).map (·.hedged)=(s.req a.id).map (·.hedged))->l.foldl bk s=(l.filter s0.slow).foldl cF s
 | [],_,_,_,_,_,_,_,_,_,_,_=>rfl
 |a::l,s,s0,hi,ho,hm,hn,h0,Ey,ec,en,hh=>by
  rw[List.foldl_cons,List.filter_cons];rw[List.map_cons,List.nodup_cons]at hn;have pE:=hm a (bY ..);obtain⟨r,hr,IY,om⟩:=cu (hi.bF a pE);have Zs:=hh a (bY ..);rw[hr]at Zs;have UJ:s0.slow a=(decide (s.c.he<=s.now-a.sY) && !r.hedged):=by
   unfold slow;rw[ec,en];cases hq:s0.req a.id with
   |none=>rw[hq]at Zs;cases Zs
   |some q=>
    rw[hq]at Zs;have:q.hedged=r.hedged:=by simpa using Zs
    dsimp only;rw[this]
  have Kc:0<s.count a.id:=by unfold count;rw[List.countP_pos_iff];exact⟨a,pE,by simp⟩
  have e1:s.bk a=if s0.slow a=true then s.cF a else s:=by
   rw[UJ];unfold bk cF;rw[hr];dsimp only;by_cases hhg:r.hedged=true
   ·rw[if_neg (by simp[hhg]),if_neg (by simp[hhg])]
   ·have Zu:r.hedged=false:=by simpa using hhg
    obtain⟨h1,h2⟩:=ho.hd r IY Zu;rw[om]at h1 h2;have hw:=h2 Kc;have uq:s.count a.id=1:=by omega
    by_cases ht:s.c.he<=s.now-a.sY
    ·rw[if_pos (by simp[Zu,hw,uq,ht];omega),if_pos (by simp[Zu,ht])]
    ·rw[if_neg (by simp[ht]),if_neg (by simp[ht])]
  by_cases hs:s0.slow a=true
  ·rw[e1,if_pos hs,if_pos hs,List.foldl_cons];have Zu:r.hedged=false:=by
    rw[UJ,bm]at hs;simpa using hs.2
   obtain⟨h1,h2⟩:=ho.hd r IY Zu;rw[om]at h1 h2;have hw:=h2 Kc;obtain⟨s1,s2,s3,_⟩:=lS (s:=s) a;refine mO l _ s0 (C2 hi pE hw) ?_ (fun b hb=>by rw[s1];exact hm b (aV _ hb)) hn.2 (by rw[s2];exact h0) (by rw[s2];exact Ey) (by rw[s2];exact ec) (by rw[s3];exact en) (fun b hb=> ?_)
   ·have:=ho.bk hi a;rw[e1,if_pos hs]at this;exact this
   ·rw[hh b (aV _ hb)];unfold cF;rw[Al,jz hi a.id b.id (fun r=>{r with hedged:=true}) (fun _=>rfl)];have cA:b.id≠a.id:=by
     intro e;have iI:=hm b (aV _ hb);have:2<=s.count a.id:=by
      unfold count;have rG:a≠b:=fun e2=>hn.1 (az.2 ⟨b,hb,by rw[e2]⟩);rw[List.countP_eq_length_filter];exact Pj.gY (l:= [a,b]) (by simp[rG]) (fun x hx=>by
       simp at hx;rcases hx with rfl|rfl
       ·exact aL.2 ⟨pE,by simp⟩
       ·exact aL.2 ⟨iI,by simpa using e⟩)
     omega
    simp only[if_neg cA];cases s.req b.id<;>rfl
  ·rw[e1,if_neg hs,if_neg hs];exact mO l s s0 hi ho (fun b hb=>hm b (aV _ hb)) hn.2 h0 Ey ec en (fun b hb=>hh b (aV _ hb))
theorem C3(hi:Inv s)(ho:Ok s)(h0:s.c.he≠0)(Ey:0<=s.c.he):s.dE=(s.ah.filter s.slow).foldl cF s:=
 mO s.ah s s hi ho (fun _ h=>h) ho.key h0 Ey rfl rfl (fun _ _=>rfl)
theorem Gi(h0:s.c.he=0):s.dE=s:=by
 unfold dE;have: ∀(l:List At),l.foldl bk s=s:=by
  intro l
  induction l with
  |nil=>rfl
  |cons a l ih=>
   rw[List.foldl_cons];have:s.bk a=s:=by
    unfold bk;split
    ·rfl
    ·rw[if_neg (by simp[h0])]
   rw[this];exact ih
 exact this _
