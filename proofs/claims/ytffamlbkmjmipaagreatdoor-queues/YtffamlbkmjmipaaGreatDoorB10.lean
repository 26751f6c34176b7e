import Derived.Test.YtffamlbkmjmipaaGreatDoorB03
import Derived.Test.YtffamlbkmjmipaaGreatDoorB09
set_option maxHeartbeats 8000000
set_option maxRecDepth 100000
namespace Go.Proofs.YtffamlbkmjmipaaGreatDoor
open _root_.Go.Proofs.Tryz
namespace Mc
open bJ
namespace St
variable{s:St}
theorem Bb{t:Bs}{i:Int}(h:i∈s.aZ t): ∃l∈s.ring,l.ten=t∧i∈l.ids:=by
 unfold aZ at h;split at h
 ·rename_i l hl;exact⟨l,dT hl,by simpa using List.find?_some hl,h⟩
 ·cases h
theorem lL(hi:Inv s){l:Ln}(hl:l∈s.ring):s.aZ l.ten=l.ids:=by unfold aZ;have hs:(s.ring.find? (·.ten==l.ten)).isSome:=List.find?_isSome.2 ⟨l,hl,by simp⟩;obtain⟨y,hy⟩:=Option.isSome_iff_exists.1 hs;rw[hy];show y.ids=l.ids;rw[ck (k:=fun l:Ln=>l.ten) hi.fP (dT hy) hl (by simpa using List.find?_some hy)]
theorem yK{t:Bs}(h:t∉s.ring.map (·.ten)):s.aZ t= []:=by unfold aZ;rw[List.find?_eq_none.2 (fun l hl e=>h (aA.2 ⟨l,hl,by simpa using e⟩))]
theorem qf(hi:Inv s){t:Bs}:s.aZ t≠ []↔t∈s.ring.map (·.ten):=by
 constructor
 ·intro h;apply Classical.byContradiction;intro h';exact h (yK h')
 ·intro h;obtain⟨l,hl,rfl⟩:=aA.1 h;rw[lL hi hl];exact(hi.ring l hl).1
theorem BD(hi:Inv s){t:Bs}:s.ring.any (·.ten==t)=true↔s.aZ t≠ []:=by
 rw[qf hi,List.any_eq_true];constructor
 ·rintro⟨l,hl,e⟩;exact aA.2 ⟨l,hl,by simpa using e⟩
 ·intro h;obtain⟨l,hl,e⟩:=aA.1 h;exact⟨l,hl,by simpa using e⟩
theorem vY(hi:Inv s)(t:Bs):(s.aZ t).Nodup:=by
 by_cases h:t∈s.ring.map (·.ten)
 ·obtain⟨l,hl,rfl⟩:=aA.1 h;rw[lL hi hl];obtain⟨k,hk,rfl⟩:=List.getElem_of_mem hl;have:=(sy (r:=s.ring) (k:=k) (a7 hk)).nodup_iff.1 hi.once;exact(List.nodup_append.1 this).1
 ·rw[yK h];simp
theorem nG(hi:Inv s){t:Bs}{i:Int}(h:i∈s.aZ t):s.ten i=t∧i∈s.ks.map (·.1):=by obtain⟨l,hl,rfl,hm⟩:=Bb h;have:=(hi.ring l hl).2 i hm;exact⟨zw hi this,lM this⟩
theorem vG(hi:Inv s){i:Int}:s.waits i=true↔i∈s.aZ (s.ten i):=by
 rw[eD];constructor
 ·intro h;obtain⟨l,hl,hm⟩:=List.mem_flatMap.1 h;rw[zw hi ((hi.ring l hl).2 i hm),lL hi hl];exact hm
 ·intro h;obtain⟨l,hl,_,hm⟩:=Bb h;exact List.mem_flatMap.2 ⟨l,hl,hm⟩
theorem Ep(hi:Inv s){id:Int}(f:Bool)(t:Bs):(s.a6 id f).aZ t=if t=s.ten id then(if f then id::s.aZ t else s.aZ t++ [id])else s.aZ t:=by
 unfold a6;split
 ·rename_i ha;unfold aZ;dsimp only;rw[cD (fun l:Ln=>l.ten) (s.ten id) _ hi.fP,List.find?_map];have e:((fun l:Ln=>l.ten==t)∘fun x:Ln=>if(x.ten==s.ten id)=true then({x with ids:=if f=true then id::x.ids else x.ids++ [id]}:Ln)else x)=fun l=>l.ten==t:=by
   funext l;simp only[Function.comp_def];split<;>rfl
  rw[e];cases hf:s.ring.find? (fun l=>l.ten==t)with
  |none=>simp only[Option.map_none];rw[if_neg];rintro rfl;rw[List.find?_eq_none]at hf;rw[List.any_eq_true]at ha;obtain⟨l,hl,h⟩:=ha;exact hf l hl h
  |some l=>
   have hl:l.ten=t:=by simpa using List.find?_some hf
   simp only[Option.map_some];by_cases h:t=s.ten id
   ·rw[if_pos h];simp[hl,h]
   ·rw[if_neg h];simp[hl,h]
 ·rename_i ha;have ha':s.ten id∉s.ring.map (·.ten):=fun h=>ha (by rw[BD hi,qf hi];exact h);unfold aZ;dsimp only;rw[List.find?_append];by_cases h:t=s.ten id
  ·subst h;have hn:s.ring.find? (fun l=>l.ten==s.ten id)=none:=List.find?_eq_none.2 (fun l hl e=>ha' (aA.2 ⟨l,hl,by simpa using e⟩));rw[hn];simp
  ·rw[if_neg h];have: [(⟨s.ten id, [id]⟩:Ln)].find? (fun l=>l.ten==t)=none:=by simp[Ne.symm h]
   rw[this,Option.or_none]
theorem Ju(hi:Inv s){id:Int}(f:Bool):(s.a6 id f).ring.map (·.ten)=if s.aZ (s.ten id)= []then s.ring.map (·.ten)++ [s.ten id]else s.ring.map (·.ten):=by
 unfold a6;split
 ·rename_i ha;rw[BD hi]at ha;rw[if_neg ha];exact cr _ (fun l:Ln=>{l with ids:=if f=true then id::l.ids else l.ids++ [id]}) (·.ten) (fun _=>rfl) _
 ·rename_i ha;rw[BD hi]at ha;rw[if_pos (Classical.not_not.1 ha),aH];rfl
theorem LN(r:List Ln)(id:Int)(t:Bs)(hn:(r.map (fun l:Ln=>l.ten)).Nodup):(match ((r.map (fun l=>({l with ids:=l.ids.filter (· !=id)}:Ln))).filter (fun l=> !l.ids.isEmpty)).find? (fun l:Ln=>l.ten==t)with|some l=>l.ids|none=> [])=(match r.find? (fun l:Ln=>l.ten==t)with|some l=>l.ids|none=> []).filter (· !=id):=by
 induction r with
 |nil=>rfl
 |cons l r ih=>
  rw[List.map_cons,List.nodup_cons]at hn;rw[List.map_cons,List.filter_cons,List.find?_cons];by_cases e:(l.ten==t)=true
  ·rw[e];dsimp only;by_cases e2:l.ids.filter (· !=id)= []
   ·rw[if_neg (by simpa using e2),e2];rw[ih hn.2];have:r.find? (·.ten==t)=none:=List.find?_eq_none.2 (fun x hx h=>hn.1 (aA.2 ⟨x,hx,by rw[beq_iff_eq]at e h;rw[e,h]⟩));rw[this];rfl
   ·rw[if_pos (by simpa using e2),List.find?_cons];rw[show((({l with ids:=l.ids.filter (· !=id)}:Ln).ten==t)=true)from e]
  ·have e':(l.ten==t)=false:=by simpa using e
   rw[e'];dsimp only;by_cases e2:(!(l.ids.filter (· !=id)).isEmpty)=true
   ·rw[if_pos e2,List.find?_cons];rw[show((({l with ids:=l.ids.filter (· !=id)}:Ln).ten==t)=false)from e'];exact ih hn.2
   ·rw[if_neg e2];exact ih hn.2
theorem yJ(hi:Inv s)(id:Int)(t:Bs):(s.left id).aZ t=(s.aZ t).erase id:=by rw[(vY hi t).erase_eq_filter];exact LN s.ring id t hi.fP
theorem M6(hi:Inv s){id:Int}:(s.left id).ring.map (·.ten)=if(s.aZ (s.ten id)).erase id= []then(s.ring.map (·.ten)).erase (s.ten id)else s.ring.map (·.ten):=by
 have Ag: ∀t,t∈(s.left id).ring.map (·.ten)↔(s.aZ t).erase id≠ []:=fun t=>by rw[<-yJ hi,qf (tW hi id)]
 have kx:((s.left id).ring.map (·.ten)).Sublist (s.ring.map (·.ten)):=by
  have e:(s.ring.map (fun l=>({l with ids:=l.ids.filter (· !=id)}:Ln))).map (·.ten)=s.ring.map (·.ten):=by rw[aG];rfl
  rw[<-e];exact List.filter_sublist.map _
 have heq:(s.left id).ring.map (·.ten)=(s.ring.map (·.ten)).filter (fun t=> !((s.aZ t).erase id).isEmpty):=by
  unfold left;dsimp only;have: ∀(r:List Ln),(∀l∈r,l∈s.ring)->((r.map (fun l=>({l with ids:=l.ids.filter (· !=id)}:Ln))).filter (fun l=> !l.ids.isEmpty)).map (·.ten)=(r.map (·.ten)).filter (fun t=> !((s.aZ t).erase id).isEmpty):=by
   intro r hr
   induction r with
   |nil=>rfl
   |cons l r ih=>
    have hl:=hr l (dy ..);have e:(s.aZ l.ten).erase id=l.ids.filter (· !=id):=by rw[(vY hi _).erase_eq_filter,lL hi hl]
    rw[List.map_cons,List.map_cons,List.filter_cons,List.filter_cons,e];have Mt:=ih (fun x hx=>hr x (bt _ hx));split
    ·rw[List.map_cons,Mt]
    ·exact Mt
  exact this _ (fun _ h=>h)
 rw[heq];split
 ·rename_i h;rw[hi.fP.erase_eq_filter];refine List.filter_congr fun t ht=> ?_;by_cases e:t=s.ten id
  ·subst e;simp[h]
  ·have h1:(s.aZ t).erase id=s.aZ t:=List.erase_of_not_mem (fun hm=>e (nG hi hm).1.symm);have h2:s.aZ t≠ []:=(qf hi).2 ht;rw[h1];have e3:(t !=s.ten id)=true:=by simpa using e
   rw[e3];simpa using h2
 ·rename_i h;refine List.filter_eq_self.2 fun t ht=> ?_;by_cases e:t=s.ten id
  ·subst e;simpa using h
  ·have h1:(s.aZ t).erase id=s.aZ t:=List.erase_of_not_mem (fun hm=>e (nG hi hm).1.symm);rw[h1];simpa using(qf hi).2 ht
end St
end Mc
namespace Mc
open bJ
namespace St
variable{s:St}
theorem sV{s s':St}(h1:s'.af=s.af)(h2:s'.reqs=s.reqs)(t:Bs):s'.runs t=s.runs t:=by unfold runs ten req;rw[h1,h2]
theorem sO{s s':St}(h1:s'.af=s.af)(t:Int):s'.nums t=s.nums t:=by unfold nums;rw[h1]
theorem vX{s s':St}(h1:s'.ring=s.ring)(t:Bs):s'.aZ t=s.aZ t:=by unfold aZ;rw[h1]
theorem BI{s s':St}(h1:s'.aq=s.aq)(t:Int):s'.drains t=s.drains t:=by unfold drains;rw[h1]
theorem vN(c d:Int):(s.conn c).drains d=s.drains d:=by
 unfold conn;split
 ·rfl
 ·rename_i h;unfold drains;dsimp only;rw[List.find?_append];cases hf:s.aq.find? (·.n==d)with
  |some x=>rfl
  |none=>
   by_cases e:c=d
   ·subst e;simp
   ·simp[e]
theorem Hx(p:Cn->Bool)(f:Cn->Cn)(h1: ∀x,(f x).n=x.n)(h2: ∀x,(f x).drains=x.drains)(d:Int):({s with aq:=aK p f s.aq}:St).drains d=s.drains d:=by
 unfold drains;dsimp only
 induction s.aq with
 |nil=>rfl
 |cons x l ih=>
  unfold aK;by_cases hp:p x=true
  ·rw[if_pos hp,List.find?_cons,List.find?_cons,h1];by_cases e:(x.n==d)=true
   ·rw[e];exact h2 x
   ·have e':(x.n==d)=false:=by simpa using e
    rw[e']
  ·rw[if_neg hp,List.find?_cons,List.find?_cons];by_cases e:(x.n==d)=true
   ·rw[e]
   ·have e':(x.n==d)=false:=by simpa using e
    rw[e'];exact ih
theorem Hw(c d:Int):(s.fJ c).drains d=s.drains d:=by
 unfold fJ;split
 ·exact Hx (s:=s) _ (fun x=>{x with gone:=true}) (fun _=>rfl) (fun _=>rfl) d
 ·rfl
theorem LA(c:Int):(s.fJ c).aq.map (·.n)=s.aq.map (·.n):=by
 unfold fJ;split
 ·exact cr _ (fun x:Cn=>{x with gone:=true}) (·.n) (fun _=>rfl) _
 ·rfl
theorem Lp(c:Int):(s.fJ c).begun=s.begun:=by unfold fJ;split<;>rfl
end St
end Mc
namespace Pj
open Mc bJ
theorem jN{α:Type} [DecidableEq α]: ∀{l l':List α},l.Nodup->(∀x∈l,x∈l')->l.length<=l'.length
 | [],_,_,_=>aJ _
 |x::l,l',hn,hs=>by
  have hx:=hs x (dy ..);rw[List.nodup_cons]at hn;have:=jN (l:=l) (l':=l'.erase x) hn.2 (fun y hy=>by have Mp:=hs y (bt _ hy);exact(List.mem_erase_of_ne (fun(e:y=x)=>hn.1 (e▸hy))).2 Mp)
  rw[List.length_erase_of_mem hx]at this;have:=List.length_pos_of_mem hx;simp only[List.length_cons];omega
namespace Rel
variable{g:Gh}{j:Js}{s:St}
theorem abu(h:Rel g j s):j.aW.length<=s.reqs.length:=by
 have:=jN h.rj (l':=s.reqs.map (·.ten)) (fun x hx=>by obtain⟨t,ht,rfl⟩:=aA.1 hx;obtain⟨r,hr,e⟩:=h.zM t ht;exact aA.2 ⟨r,hr,e⟩)
 simpa using this
theorem cons(h:Rel g j s):j.bT.length<=s.aq.length:=by
 have:=jN h.cnd (l':=s.aq.map (·.n)) (fun x hx=>by obtain⟨t,ht,rfl⟩:=aA.1 hx;exact h.cin t ht)
 simpa using this
theorem out(h:Rel g j s)(o:List (Int×Bs)):Rel g j {s with out:=o}:=⟨h.c,h.now,h.begun,h.pull,h.ring,h.reqs,h.al,h.rj,h.wt,h.rn,h.ten,h.zM,h.hp,h.heap,h.FO,h.rI,h.cnd,h.cin,h.dr⟩
theorem say(h:Rel g j s)(c:Int)(t:Bs):Rel g j (s.say c t):=h.out _
theorem told(h:Rel g j s):Rel g j s.told:=h.out _
theorem conn(h:Rel g j s)(c:Int):Rel g j (s.conn c):=by
 obtain⟨e1,e2,e3,e4,e5,e6,e7,e8⟩:=St.fc (s:=s) c;refine⟨by rw[e6];exact h.c,by rw[e7];exact h.now,by rw[e8];exact h.begun,by rw[e4];exact h.pull,by rw[e3];exact h.ring,by rw[e2];exact h.reqs,fun r hr=>by rw[St.sO e1];exact h.al r hr,h.rj,
  fun t ht=>by rw[St.vX e3];exact h.wt t ht,fun t ht=>by rw[St.sV e1 e2];exact h.rn t ht,by rw[e2];exact h.ten,by rw[e2];exact h.zM,by rw[e1];exact h.hp,h.heap,by rw[e1];exact h.FO,by rw[e1,e8];exact h.rI,h.cnd,fun k hk=> ?_,fun d=>by rw[St.vN];exact h.dr d⟩
 have:=h.cin k hk;unfold St.conn;split
 ·exact this
 ·rw[aH];exact List.mem_append_left _ this
theorem fJ(h:Rel g j s)(c:Int):Rel g j (s.fJ c):=by
 obtain⟨_,e1,e3,e2,e4,e6,e7⟩:=St.sx (s:=s) c;have e8:=St.Lp (s:=s) c;exact⟨by rw[e6];exact h.c,by rw[e7];exact h.now,by rw[e8];exact h.begun,by rw[e4];exact h.pull,by rw[e3];exact h.ring,by rw[e2];exact h.reqs,fun r hr=>by rw[St.sO e1];exact h.al r hr,h.rj,
  fun t ht=>by rw[St.vX e3];exact h.wt t ht,fun t ht=>by rw[St.sV e1 e2];exact h.rn t ht,by rw[e2];exact h.ten,by rw[e2];exact h.zM,by rw[e1];exact h.hp,h.heap,by rw[e1];exact h.FO,by rw[e1,e8];exact h.rI,h.cnd,by rw[St.LA];exact h.cin,fun d=>by rw[St.Hw];exact h.dr d⟩
theorem rings(h:Rel g j s){s':St}(j':Js)(e1:s'.af=s.af)(e2:s'.reqs=s.reqs)(e3:s'.wait=s.wait)(e4:s'.aq=s.aq)(e5:s'.c=s.c)(e6:s'.now=s.now)(e7:s'.begun=s.begun)(x:Bs)(f:List Int->List Int)(hj:j'={j with ring:=j'.ring,aW:=upd (fun t:Tr=>t.nm) x (fun t=>{t with wt:=f t.wt}) j.aW})(hr:j'.ring=s'.ring.map (·.ten))(hw: ∀t,s'.aZ t=if t=x then f (s.aZ t)else s.aZ t):Rel g j' s':=by
 have em:j'.aW.map (·.nm)=j.aW.map (·.nm):=by rw[hj];exact ib (fun t:Tr=>t.nm) (fun _ _ _=>rfl)
 have ht: ∀t∈j'.aW,∃y∈j.aW,t=if y.nm=x then{y with wt:=f y.wt}else y:=by intro t ht;rw[hj]at ht;obtain⟨y,hy,e⟩:=aA.1 ht;exact⟨y,hy,e.symm⟩
 refine⟨by rw[hj,e5];exact h.c,by rw[hj,e6];exact h.now,by rw[hj,e7];exact h.begun,by rw[hj,e3];exact h.pull,hr,by rw[hj,e2];exact h.reqs,fun r hr=>by rw[St.sO e1];exact h.al r (by rw[hj]at hr;exact hr),by rw[em];exact h.rj,
  fun t zL=> ?_,fun t zL=> ?_,by rw[em,e2];exact h.ten,fun t zL=> ?_,by rw[hj,e1];exact h.hp,by rw[hj];exact h.heap,by rw[e1];exact h.FO,by rw[e1,e7];exact h.rI,by rw[hj];exact h.cnd,by rw[hj,e4];exact h.cin,fun d=>by rw[St.BI e4,hj];exact h.dr d⟩
 ·obtain⟨y,hy,rfl⟩:=ht t zL;rw[hw];split
  ·show f y.wt=f (s.aZ y.nm);rw[h.wt y hy]
  ·exact h.wt y hy
 ·obtain⟨y,hy,rfl⟩:=ht t zL;rw[St.sV e1 e2];split
  ·exact h.rn y hy
  ·exact h.rn y hy
 ·obtain⟨y,hy,rfl⟩:=ht t zL;rw[e2];split
  ·exact h.zM y hy
  ·exact h.zM y hy
theorem Dk(id:Int)(f:Bool):(s.a6 id f).begun=s.begun:=by unfold St.a6;split<;>rfl
theorem wait(h:Rel g j s)(hi:Inv s){x:Tr}(hx:x∈j.aW){id:Int}(e:x.nm=s.ten id)(f:Bool):Rel g (j.wait x id f) (s.a6 id f):=by
 obtain⟨_,e1,e2,e3,e4,_,e5,e6⟩:=St.fQ (s:=s) id f;refine h.rings _ e1 e2 e3 e4 e5 e6 (Dk id f) x.nm (fun l=>if f then id::l else l++ [id]) rfl ?_ (fun t=> ?_)
 ·rw[St.Ju hi];show(if x.wt= []then j.ring++ [x.nm]else j.ring)=_;rw[h.wt x hx,e,h.ring]
 ·rw[St.Ep hi,e]
theorem left(h:Rel g j s)(hi:Inv s){x:Tr}(hx:x∈j.aW){id:Int}(e:x.nm=s.ten id):Rel g (j.left x id) (s.left id):=by
 refine h.rings _ rfl rfl rfl rfl rfl rfl rfl x.nm (fun l=>l.erase id) rfl ?_ (fun t=> ?_)
 ·rw[St.M6 hi];show(if x.wt.erase id= []then j.ring.erase x.nm else j.ring)=_;rw[h.wt x hx,e,h.ring]
 ·rw[St.yJ hi];split
  ·rfl
  ·rename_i ne;exact List.erase_of_not_mem (fun hm=>ne (by rw[e];exact(St.nG hi hm).1.symm))
theorem idle(h:Rel g j s)(c:Int):Rel g {j with pull:=j.pull.filter (· !=c)} (s.idle c):=
 ⟨h.c,h.now,h.begun,by show _=s.wait.filter _;rw[<-h.pull],h.ring,h.reqs,h.al,h.rj,h.wt,h.rn,h.ten,h.zM,h.hp,h.heap,h.FO,h.rI,h.cnd,h.cin,h.dr⟩
theorem pulls(h:Rel g j s)(l:List Int):Rel g {j with pull:=l} {s with wait:=l}:=
 ⟨h.c,h.now,h.begun,rfl,h.ring,h.reqs,h.al,h.rj,h.wt,h.rn,h.ten,h.zM,h.hp,h.heap,h.FO,h.rI,h.cnd,h.cin,h.dr⟩
theorem ac5(h:Rel g j s)(n:Int):Rel g {j with now:=n} {s with now:=n}:=
 ⟨h.c,rfl,h.begun,h.pull,h.ring,h.reqs,h.al,h.rj,h.wt,h.rn,h.ten,h.zM,h.hp,h.heap,h.FO,h.rI,h.cnd,h.cin,h.dr⟩
end Rel
end Pj
namespace Mc
open bJ
theorem nO{p:At->Bool}: ∀{l:List At} {i:Nat} {a:At},l[i]?=some a->p a=true->(∀x∈l,p x=true->x.n=a.n->x=a)->(l.map fun a=>(a.id,a.n)).Nodup->((l.eraseIdx i).filter p).map (·.n)=((l.filter p).map (·.n)).erase a.n
 | [],i,a,h,_,_,_=>by simp at h
 |x::l,0,a,h,hp,_,_=>by simp at h;subst h;simp[hp]
 |x::l,i+1,a,h,hp,hu,hn=>by
  have h':l[i]?=some a:=by simpa using h
  rw[List.map_cons,List.nodup_cons]at hn;have ih:=nO h' hp (fun y hy=>hu y (bt _ hy)) hn.2;rw[List.eraseIdx_cons_succ,List.filter_cons,List.filter_cons];by_cases e:p x=true
  ·rw[if_pos e,if_pos e,List.map_cons,List.map_cons,ih];have cC:x.n≠a.n:=fun e2=>by
    have:=hu x (dy ..) e e2;subst this;exact hn.1 (aA.2 ⟨x,dn h',rfl⟩)
   rw[List.erase_cons_tail (by simpa using cC)]
  ·rw[if_neg e,if_neg e,ih]
theorem kF{α:Type}{p:α->Bool}: ∀{l:List α} {i:Nat} {a:α},l[i]?=some a->p a=false->(l.eraseIdx i).filter p=l.filter p
 | [],i,a,h,_=>by simp at h
 |x::l,0,a,h,hp=>by simp at h;subst h;simp[hp]
 |x::l,i+1,a,h,hp=>by
  have h':l[i]?=some a:=by simpa using h
  rw[List.eraseIdx_cons_succ,List.filter_cons,List.filter_cons,kF h' hp]
namespace St
variable{s:St}
theorem zj(ho:Ok s){i:Nat}{a:At}(ha:s.af[i]?=some a)(id:Int):({s with af:=s.af.eraseIdx i}:St).nums id=if id=a.id then(s.nums id).erase a.n else s.nums id:=by
 unfold nums;dsimp only;split
 ·rename_i e;subst e;refine nO ha (by simp) (fun x hx hp hn=> ?_) ho.key;have e:x.id=a.id:=by simpa using hp
  exact ck (k:=fun a:At=>(a.id,a.n)) ho.key hx (dn ha) (by rw[e,hn])
 ·rename_i e;rw[kF ha (by simpa using Ne.symm e)]
theorem Jw{i:Nat}{a:At}(ha:s.af[i]?=some a)(t:Bs):({s with af:=s.af.eraseIdx i}:St).runs t+(if s.ten a.id=t then 1 else 0)=s.runs t:=by have:=gZ (fun x:At=>s.ten x.id==t) ha;have e:({s with af:=s.af.eraseIdx i}:St).runs t=(s.af.eraseIdx i).countP (fun x:At=>s.ten x.id==t):=rfl;rw[e];simpa[runs]using this
theorem uy(id:Int)(f:Rq->Rq)(h1: ∀r,(f r).id=r.id)(h2: ∀r,(f r).ten=r.ten)(i:Int):(s.bu id f).ten i=s.ten i:=by
 unfold ten req bu;dsimp only
 induction s.reqs with
 |nil=>rfl
 |cons x l ih=>
  unfold aK;by_cases hp:(x.id==id)=true
  ·rw[if_pos hp,List.find?_cons,List.find?_cons,h1];by_cases e:(x.id==i)=true
   ·rw[e];exact h2 x
   ·have e':(x.id==i)=false:=by simpa using e
    rw[e']
  ·rw[if_neg hp,List.find?_cons,List.find?_cons];by_cases e:(x.id==i)=true
   ·rw[e]
   ·have e':(x.id==i)=false:=by simpa using e
    rw[e'];exact ih
end St
end Mc
namespace Pj
open Mc bJ
namespace Rel
variable{g:Gh}{j:Js}{s:St}
theorem ended(h:Rel g j s)(ho:Ok s){i:Nat}{a:At}(ha:s.af[i]?=some a)(hp:List At)(h1:(a::hp).Perm j.hp)(h2:Hp.Heap (gH g) hp hp.length):Rel g (j.ended a (s.ten a.id) hp) {s with af:=s.af.eraseIdx i}:=by
 have ht: ∀t∈(j.ended a (s.ten a.id) hp).aW,∃y∈j.aW,t=if y.nm=s.ten a.id then{y with rn:=y.rn-1}else y:=by intro t ht;obtain⟨y,hy,e⟩:=aA.1 ht;exact⟨y,hy,e.symm⟩
 have em:(j.ended a (s.ten a.id) hp).aW.map (·.nm)=j.aW.map (·.nm):=ib (fun t:Tr=>t.nm) (fun _ _ _=>rfl);have kx:=List.eraseIdx_sublist s.af i;refine⟨h.c,h.now,h.begun,h.pull,h.ring, ?_,fun r hr=> ?_,by rw[em];exact h.rj,fun t zL=> ?_,fun t zL=> ?_,by rw[em];exact h.ten,fun t zL=> ?_, ?_,h2,h.FO.sublist (kx.map _),fun b hb=>h.rI b (kx.subset hb),h.cnd,h.cin,h.dr⟩
 ·have:(j.ended a (s.ten a.id) hp).reqs.map (·.q)=j.reqs.map (·.q):=ib (fun r:Rr=>r.q) (fun _ _ _=>rfl);rw[this];exact h.reqs
 ·rw[St.zj ho ha];rcases Cm hr with⟨hr,cC⟩|⟨y,hy,hk,rfl⟩
  ·rw[if_neg cC];exact h.al r hr
  ·dsimp only at hk⊢;rw[if_pos hk,h.al y hy]
 ·obtain⟨y,hy,rfl⟩:=ht t zL;show _=s.aZ _;split
  ·exact h.wt y hy
  ·exact h.wt y hy
 ·obtain⟨y,hy,rfl⟩:=ht t zL;have hr:=St.Jw ha y.nm;have h0:=h.rn y hy;split
  ·rename_i e;rw[if_pos e.symm]at hr;show y.rn-1=((({s with af:=s.af.eraseIdx i}:St).runs y.nm:Nat):Int);omega
  ·rename_i e;rw[if_neg (fun e'=>e e'.symm)]at hr;omega
 ·obtain⟨y,hy,rfl⟩:=ht t zL;split
  ·exact h.zM y hy
  ·exact h.zM y hy
 ·show hp.Perm (s.af.eraseIdx i);have h3:(a::hp).Perm (a::s.af.eraseIdx i):=by
   refine(h1.trans h.hp).trans ?_;have ay:=(cK.1 ha).1;have e:a=s.af[i]:=((cK.1 ha).2).symm;have:s.af=s.af.take i++a::s.af.drop (i+1):=by rw[e,List.getElem_cons_drop,List.take_append_drop]
   rw[List.eraseIdx_eq_take_drop_succ];exact(List.Perm.of_eq this).trans List.perm_middle
  exact(List.perm_cons a).1 h3
theorem bu(h:Rel g j s)(hi:Inv s)(id:Int)(f:Rq->Rq)(h1: ∀r,(f r).id=r.id)(h2: ∀r,(f r).ten=r.ten):Rel g (j.Vl id (fun r=>{r with q:=f r.q})) (s.bu id f):=by
 have jJ:=hi.rid;unfold St.ks at jJ;rw[aG]at jJ;have er:(j.Vl id (fun r=>{r with q:=f r.q})).reqs.map (·.q)=(s.bu id f).reqs:=by show(upd (fun r:Rr=>r.q.id) id (fun r=>{r with q:=f r.q}) j.reqs).map (·.q)=aK (·.id==id) f s.reqs;rw[cD (fun r:Rq=>r.id) id f jJ,<-h.reqs];unfold upd;rw[aG,aG];refine bY fun r _=> ?_;simp only[Function.comp_def,beq_iff_eq];split<;>rfl
 have Sh: ∀t,(s.bu id f).runs t=s.runs t:=fun t=>by unfold St.runs;show List.countP _ s.af=_;congr 1;funext a;rw[St.uy id f h1 h2]
 have hm: ∀r∈(s.bu id f).reqs,∃y∈s.reqs,r.ten=y.ten:=fun r hr=>by
  rcases cR hr with hr|⟨y,hy,_,rfl⟩
  ·exact⟨r,hr,rfl⟩
  ·exact⟨y,hy,h2 y⟩
 have Eg: ∀y∈s.reqs,∃r∈(s.bu id f).reqs,r.ten=y.ten:=fun y hy=>by
  show∃r∈aK (·.id==id) f s.reqs,r.ten=y.ten;rw[cD (fun r:Rq=>r.id) id f jJ];refine⟨_,aA.2 ⟨y,hy,rfl⟩, ?_⟩;split
  ·exact h2 y
  ·rfl
 refine⟨h.c,h.now,h.begun,h.pull,h.ring,er,fun r hr=> ?_,h.rj,h.wt,fun t ht=>by rw[Sh];exact h.rn t ht,fun r hr=> ?_,fun t ht=> ?_,h.hp,h.heap,h.FO,h.rI,h.cnd,h.cin,h.dr⟩
 ·show r.al=s.nums r.q.id;rcases Cm hr with⟨hr,_⟩|⟨y,hy,_,rfl⟩
  ·exact h.al r hr
  ·show y.al=s.nums (f y.q).id;rw[h1];exact h.al y hy
 ·obtain⟨y,hy,e⟩:=hm r hr;rw[e];exact h.ten y hy
 ·obtain⟨y,hy,e⟩:=h.zM t ht;obtain⟨r,hr,e'⟩:=Eg y hy;exact⟨r,hr,e'.trans e⟩
end Rel
def Js.dropped(j:Js)(x:Tr)(id:Int):Js:=
 {j with reqs:=j.reqs.filter (fun r=>r.q.id !=id),aW:=if x.wt= []∧x.rn=0 then j.aW.filter (fun t=>t.nm !=x.nm)else j.aW}
namespace Rel
variable{g:Gh}{j:Js}{s:St}
theorem dropped(h:Rel g j s)(hi:Inv s){id:Int}(ha: ∀a∈s.af,a.id≠id)(hw:s.waits id=false)(hb:Busy s (fun x=>x=id)){x:Tr}(hx:x∈j.aW)(e:x.nm=s.ten id):Rel g (j.dropped x id) {s with reqs:=dropFirst (·.id==id) s.reqs}:=by
 have jJ:=hi.rid;unfold St.ks at jJ;rw[aG]at jJ;have hd:dropFirst (fun r:Rq=>r.id==id) s.reqs=s.reqs.filter (fun r=>r.id !=id):=jE (fun r:Rq=>r.id) id jJ;have Ak: ∀i,i≠id->({s with reqs:=dropFirst (·.id==id) s.reqs}:St).ten i=s.ten i:=by
  intro i cC;unfold St.ten St.req;dsimp only;rw[hd,List.find?_filter];have:(fun a:Rq=>decide ((a.id !=id)=true∧(a.id==i)=true))=fun a=>a.id==i:=by
   funext a;by_cases e2:a.id=i
   ·simp[e2,cC]
   ·simp[e2]
  rw[this]
 have Sh: ∀t,({s with reqs:=dropFirst (·.id==id) s.reqs}:St).runs t=s.runs t:=fun t=>by unfold St.runs;dsimp only;exact List.countP_congr fun a hm=>by rw[Ak a.id (ha a hm)]
 have N0: ∀t∈(j.dropped x id).aW,t∈j.aW∧(t.nm=x.nm-> ¬(x.wt= []∧x.rn=0)):=by
  intro t ht;unfold Js.dropped at ht;dsimp only at ht;split at ht
  ·obtain⟨h1,h2⟩:=aR.1 ht;exact⟨h1,fun e=>absurd e (by simpa using h2)⟩
  ·rename_i hc;exact⟨ht,fun _=>hc⟩
 have az: ∀i,i∈s.ks.map (·.1)->i≠id-> ∃r∈dropFirst (fun r:Rq=>r.id==id) s.reqs,r.ten=s.ten i:=by intro i hk cC;obtain⟨r,hr,hm,e2⟩:=St.cz hk;refine⟨r,by rw[hd];exact aR.2 ⟨hm,by simpa[e2]using cC⟩, ?_⟩;unfold St.ten;rw[hr]
 refine⟨h.c,h.now,h.begun,h.pull,h.ring, ?_,fun r hr=> ?_, ?_,fun t ht=>h.wt t (N0 t ht).1,fun t ht=>by rw[Sh];exact h.rn t (N0 t ht).1,fun r hr=> ?_,fun t ht=> ?_,h.hp,h.heap,h.FO,h.rI,h.cnd,h.cin,h.dr⟩
 ·show(j.reqs.filter (fun r=>r.q.id !=id)).map (·.q)=dropFirst (·.id==id) s.reqs;rw[hd,<-h.reqs,List.filter_map];rfl
 ·exact h.al r (aR.1 hr).1
 ·show((if x.wt= []∧x.rn=0 then j.aW.filter (fun t=>t.nm !=x.nm)else j.aW).map (·.nm)).Nodup;split
  ·exact(List.filter_sublist.map _).nodup h.rj
  ·exact h.rj
 ·have qO:r∈s.reqs.filter (fun r=>r.id !=id):=by rw[<-hd];exact hr
  obtain⟨X2,cC⟩:=aR.1 qO;have Iq:r.id≠id:=by simpa using cC
  have hm:=h.ten r X2;show r.ten∈(if x.wt= []∧x.rn=0 then j.aW.filter (fun t=>t.nm !=x.nm)else j.aW).map (·.nm);split
  ·rename_i hc;obtain⟨t,ht,e2⟩:=aA.1 hm;refine aA.2 ⟨t,aR.2 ⟨ht, ?_⟩,e2⟩
   suffices t.nm≠x.nm by simpa using this
   intro e3;have u9:s.ten r.id=x.nm:=by unfold St.ten;rw[St.vD hi X2];dsimp only;rw[<-e2,e3]
   rcases hb r X2 Iq with yz|hbc
   ·rw[St.vG hi,u9,<-h.wt x hx,hc.1]at yz;cases yz
   ·have h0:=h.rn x hx;rw[hc.2]at h0;have:s.runs x.nm=0:=by omega
    unfold St.runs at this;rw[List.countP_eq_zero]at this;unfold St.count at hbc;rw[List.countP_pos_iff]at hbc;obtain⟨a,rR,wO⟩:=hbc;have acg:a.id=r.id:=by simpa using wO
    exact this a rR (by rw[acg,u9];simp)
  ·exact hm
 ·obtain⟨ht1,ht2⟩:=N0 t ht;by_cases e3:t.nm=x.nm
  ·have hc:=ht2 e3;rw[e3];by_cases om:x.wt= []
   ·have adT:x.rn≠0:=fun h0=>hc ⟨om,h0⟩;have h0:=h.rn x hx;have:0<s.runs x.nm:=by omega
    unfold St.runs at this;rw[List.countP_pos_iff]at this;obtain⟨a,rR,wO⟩:=this;obtain⟨r,hr,e4⟩:=az a.id (hi.bS a rR) (ha a rR);exact⟨r,hr,by rw[e4];simpa using wO⟩
   ·rw[h.wt x hx]at om;obtain⟨i,hm⟩:=List.exists_mem_of_ne_nil _ om;obtain⟨h5,h6⟩:=St.nG hi hm;have cC:i≠id:=by
     rintro rfl;have:s.waits i=true:=by rw[St.vG hi,h5];exact hm
     rw[hw]at this;cases this
    obtain⟨r,hr,e4⟩:=az i h6 cC;exact⟨r,hr,by rw[e4,h5]⟩
  ·obtain⟨r,hr,e4⟩:=h.zM t ht1;have cC:r.id≠id:=by
    intro e5;apply e3;have:s.ten r.id=r.ten:=by unfold St.ten;rw[St.vD hi hr]
    rw[e,<-e4,<-this,e5]
   exact⟨r,by show r∈dropFirst (fun r:Rq=>r.id==id) s.reqs;rw[hd];exact aR.2 ⟨hr,by simpa using cC⟩,e4⟩
end Rel
end Pj
namespace Mc
open bJ
theorem lC{α:Type} [BEq α] [LawfulBEq α]: ∀{l:List α} {k:Nat} {a:α},l[k]?=some a->l.Nodup->l.erase a=l.eraseIdx k
 | [],k,a,h,_=>by simp at h
 |x::l,0,a,h,_=>by simp at h;subst h;simp
 |x::l,k+1,a,h,hn=>by
  have h':l[k]?=some a:=by simpa using h
  rw[List.nodup_cons]at hn;have cC:x≠a:=fun e=>hn.1 (e▸dn h');rw[List.erase_cons_tail (by simpa using cC),List.eraseIdx_cons_succ,lC h' hn.2]
namespace St
variable{s:St}
theorem zZ{r:List Ln}: ∀{k:Nat} {l:Ln} {t:Bs},r[k]?=some l->l.ten≠t->(r.eraseIdx k).find? (fun l:Ln=>l.ten==t)=r.find? (fun l:Ln=>l.ten==t):=by
 induction r with
 |nil=>intro k l t h;simp at h
 |cons x r ih=>
  intro k l t h cC
  match k with
  |0=>
   simp at h;subst h;rw[List.eraseIdx_zero,List.tail_cons,List.find?_cons];have:(x.ten==t)=false:=by simpa using cC
   rw[this]
  |k+1=>rw[List.eraseIdx_cons_succ,List.find?_cons,List.find?_cons,ih (by simpa using h) cC]
theorem FE{l:Ln}{id:Int}(hid:l.ids.head?=some id):(rest l).map (·.ten)=(if l.ids.erase id= []then []else [l.ten])∧(∀x∈rest l,x.ten=l.ten∧x.ids=l.ids.erase id)∧(rest l= []↔l.ids.erase id= []):=by
 unfold rest;split
 ·rename_i a b t hh;rw[hh]at hid;simp at hid;subst hid;rw[hh];simp
 ·rename_i hh
  match hm:l.ids with
  | []=>rw[hm]at hid;cases hid
  | [a]=>rw[hm]at hid;simp at hid;subst hid;simp
  |a::b::t=>exact absurd hm (hh a b t)
theorem BZ(hi:Inv s){c:Int}{ws:List Int}{k:Nat}{l:Ln}{id:Int}{r:Rq}(hl:s.ring[k]?=some l)(hid:l.ids.head?=some id)(t:Bs):(s.giving c ws k l id r).aZ t=if t=l.ten then(s.aZ t).erase id else s.aZ t:=by
 obtain⟨h1,h2,h3⟩:=FE hid;have KC:=dn hl;unfold aZ;show(match (s.ring.eraseIdx k++rest l).find? (fun l:Ln=>l.ten==t)with|some l=>l.ids|none=> [])=_;rw[List.find?_append];by_cases e:t=l.ten
 ·subst e;rw[if_pos rfl];have hn:(s.ring.eraseIdx k).find? (fun x:Ln=>x.ten==l.ten)=none:=by
   rw[List.find?_eq_none];intro x hx hp;have mH:x.ten∈(s.ring.eraseIdx k).map (·.ten):=aA.2 ⟨x,hx,rfl⟩;have e2:l.ten=x.ten:=by simpa using Eq.symm (by simpa using hp:x.ten=l.ten)
   rw[gN,<-lC (a:=l.ten) (by rw[List.getElem?_map,hl];rfl) hi.fP,<-e2]at mH;exact hi.fP.not_mem_erase mH
  rw[hn,Option.none_or];have h4:=lL hi KC;unfold aZ at h4;rw[h4];cases hr:rest l with
  |nil=>exact(h3.1 hr).symm
  |cons x t=>obtain⟨h5,h6⟩:=h2 x (by rw[hr];exact dy ..);rw[List.find?_cons,h5];simp[h6]
 ·rw[if_neg e,zZ hl (Ne.symm e)];have hn:(rest l).find? (fun x:Ln=>x.ten==t)=none:=by
   rw[List.find?_eq_none];intro x hx hp;exact e ((by simpa using hp:x.ten=t)▸(h2 x hx).1)
  rw[hn,Option.or_none];rfl
theorem FH(hi:Inv s){c:Int}{ws:List Int}{k:Nat}{l:Ln}{id:Int}{r:Rq}(hl:s.ring[k]?=some l)(hid:l.ids.head?=some id):(s.giving c ws k l id r).ring.map (·.ten)=(s.ring.map (·.ten)).erase l.ten++(if l.ids.erase id= []then []else [l.ten]):=by show(s.ring.eraseIdx k++rest l).map (·.ten)=_;rw[aH,(FE hid).1,gN,lC (a:=l.ten) (by rw[List.getElem?_map,hl];rfl) hi.fP]
end St
end Mc
namespace Pj
open Mc bJ
namespace Rel
variable{g g':Gh}{j:Js}{s:St}
theorem gave(h:Rel g j s)(hi:Inv s){c:Int}{ws:List Int}{k:Nat}{l:Ln}{id:Int}{r:Rq}(hw:s.wait=c::ws)(hl:s.ring[k]?=some l)(hid:l.ids.head?=some id)(hr:s.req id=some r){x:Tr}(hx:x∈j.aW)(e:x.nm=l.ten){a:At}(ea:a=⟨id,r.n+1,c,s.now,s.now+s.c.le⟩)(hg: ∀y∈s.af,g'.sr (key y)=g.sr (key y))(hga:g'.sr (key a)=s.begun+1)(hp:List At)(h1:hp.Perm (a::j.hp))(h2:Hp.Heap (gH g') hp hp.length):Rel g' (j.gave x a hp) (s.giving c ws k l id r):=by
 obtain⟨KI,oK,_⟩:=St.oY hr;have jJ:=hi.rid;unfold St.ks at jJ;rw[aG]at jJ;have VO:a.id=id:=by rw[ea]
 have en:a.n=r.n+1:=by rw[ea]
 have DI:(s.giving c ws k l id r).af=s.af++ [a]:=by rw[ea];rfl
 have KC:=dn hl;have Ak:s.ten id=l.ten:=St.zw hi ((hi.ring l KC).2 id (List.mem_of_head? hid));have Wd: ∀i,(s.giving c ws k l id r).ten i=s.ten i:=fun i=>St.uy (s:=s) id (fun r=>{r with n:=r.n+1}) (fun _=>rfl) (fun _=>rfl) i;have om:x.wt=l.ids:=by rw[h.wt x hx,e,St.lL hi KC]
 have em:(j.gave x a hp).aW.map (·.nm)=j.aW.map (·.nm):=ib (fun t:Tr=>t.nm) (fun _ _ _=>rfl);have ht: ∀t∈(j.gave x a hp).aW,∃y∈j.aW,t=if y.nm=x.nm then{y with wt:=y.wt.erase a.id,rn:=y.rn+1}else y:=by intro t ht;obtain⟨y,hy,e⟩:=aA.1 ht;exact⟨y,hy,e.symm⟩
 have Sh: ∀t,(s.giving c ws k l id r).runs t=s.runs t+if l.ten=t then 1 else 0:=by
  intro t;unfold St.runs;rw[DI,List.countP_append];congr 1
  ·exact List.countP_congr fun y _=>by rw[Wd]
  ·rw[List.countP_singleton,Wd,VO,Ak];simp
 refine⟨h.c,h.now,by show j.begun+1=s.begun+1;rw[h.begun],by show j.pull.tail=ws;rw[h.pull,hw];rfl, ?_, ?_,fun q hq=> ?_,by rw[em];exact h.rj,fun t zL=> ?_,fun t zL=> ?_,fun q hq=> ?_,fun t zL=> ?_, ?_,h2, ?_,fun y hy=> ?_,h.cnd,h.cin,h.dr⟩
 ·rw[St.FH hi hl hid];show j.ring.erase x.nm++(if x.wt.erase a.id= []then []else [x.nm])=_;rw[h.ring,e,om,VO]
 ·show(upd (fun r:Rr=>r.q.id) a.id (fun r=>⟨{r.q with n:=r.q.n+1},r.al++ [a.n]⟩) j.reqs).map (·.q)=aK (·.id==id) (fun r=>{r with n:=r.n+1}) s.reqs;rw[cD (fun r:Rq=>r.id) id _ jJ,<-h.reqs,VO];unfold upd;rw[aG,aG];refine bY fun r _=> ?_;simp only[Function.comp_def,beq_iff_eq];split<;>rfl
 ·unfold St.nums;rw[DI,List.filter_append,aH];rcases Cm hq with⟨hq,cC⟩|⟨y,hy,hk,rfl⟩
  ·have: [a].filter (fun z:At=>z.id==q.q.id)= []:=by simp[Ne.symm cC]
   rw[this,List.map_nil,List.append_nil];exact h.al q hq
  ·dsimp only at hk⊢;have: [a].filter (fun z:At=>z.id==y.q.id)= [a]:=by simp[hk]
   rw[this];rw[h.al y hy];rfl
 ·obtain⟨y,hy,rfl⟩:=ht t zL;rw[St.BZ hi hl hid];by_cases e2:y.nm=x.nm
  ·rw[if_pos e2];dsimp only;rw[if_pos (e2.trans e),h.wt y hy,VO]
  ·rw[if_neg e2,if_neg (fun h=>e2 (h.trans e.symm)),h.wt y hy]
 ·obtain⟨y,hy,rfl⟩:=ht t zL;rw[Sh];have:=h.rn y hy;by_cases e2:y.nm=x.nm
  ·rw[if_pos e2];dsimp only;rw[if_pos (by rw[e2,e])];omega
  ·rw[if_neg e2,if_neg (fun h=>e2 (h.symm.trans e.symm))];omega
 ·rw[em];rcases cR (show q∈aK (·.id==id) (fun r=>({r with n:=r.n+1}:Rq)) s.reqs from hq)with hq|⟨y,hy,_,rfl⟩
  ·exact h.ten q hq
  ·exact h.ten y hy
 ·obtain⟨y,hy,rfl⟩:=ht t zL;obtain⟨q,hq,e3⟩:=h.zM y hy;have: ∃q'∈(s.giving c ws k l id r).reqs,q'.ten=q.ten:=by
   show∃q'∈aK (·.id==id) (fun r=>({r with n:=r.n+1}:Rq)) s.reqs,q'.ten=q.ten;rw[cD (fun r:Rq=>r.id) id _ jJ];refine⟨_,aA.2 ⟨q,hq,rfl⟩, ?_⟩;split<;>rfl
  obtain⟨q',wT,e4⟩:=this;refine⟨q',wT,e4.trans (e3.trans ?_)⟩;split<;>rfl
 ·rw[DI];exact h1.trans ((h.hp.cons a).trans (List.perm_append_singleton a s.af).symm)
 ·rw[DI,aH,List.pairwise_append];have hs:s.af.map (fun a=>g'.sr (key a))=s.af.map (fun a=>g.sr (key a)):=bY fun y hy=>hg y hy;refine⟨by rw[hs];exact h.FO,by simp,fun u hu v hv=> ?_⟩;obtain⟨y,hy,rfl⟩:=aA.1 hu;simp at hv;subst hv;have:=(h.rI y hy).2;rw[hg y hy,hga];omega
 ·rw[DI]at hy;show _∧_<=((s.begun+1:Nat):Int);rcases List.mem_append.1 hy with hy|hy
  ·have:=h.rI y hy;rw[hg y hy];omega
  ·obtain rfl:=cY.1 hy;rw[hga];omega
def renew(k:Int×Int)(v:Int)(y:At):At:=if key y=k then{y with eV:=v}else y
theorem iC(k:Int×Int)(v:Int)(y:At):key (renew k v y)=key y∧(renew k v y).id=y.id∧(renew k v y).n=y.n∧(renew k v y).conn=y.conn:=by unfold renew;split<;>exact⟨rfl,rfl,rfl,rfl⟩
theorem U1(h:Rel g j s)(k:Int×Int)(v:Int)(hp:List At)(h1:hp.Perm (j.hp.map (renew k v)))(h2:Hp.Heap (gH g) hp hp.length):Rel g {j with hp:=hp} {s with af:=s.af.map (renew k v)}:=by
 refine⟨h.c,h.now,h.begun,h.pull,h.ring,h.reqs,fun r hr=> ?_,h.rj,h.wt,fun t ht=> ?_,h.ten,h.zM,h1.trans (h.hp.map _),h2, ?_,fun y hy=> ?_,h.cnd,h.cin,h.dr⟩
 ·rw[h.al r hr];unfold St.nums;dsimp only;rw[List.filter_map,aG];have e1:((fun x:At=>x.id==r.q.id)∘renew k v)=fun x=>x.id==r.q.id:=by funext y;simp only[Function.comp_def,(iC k v y).2.1]
  rw[e1];exact bY fun y _=>by simp only[Function.comp_def,(iC k v y).2.2.1]
 ·rw[h.rn t ht];unfold St.runs;dsimp only;rw[List.countP_map];congr 1;exact List.countP_congr fun y _=>by simp only[Function.comp_def,(iC k v y).2.1];exact Iff.rfl
 ·show((s.af.map (renew k v)).map _).Pairwise _;rw[aG];have:s.af.map ((fun a=>g.sr (key a))∘renew k v)=s.af.map fun a=>g.sr (key a):=bY fun y _=>by simp only[Function.comp_def,(iC k v y).1]
  rw[this];exact h.FO
 ·obtain⟨z,hz,rfl⟩:=aA.1 hy;rw[(iC k v z).1];exact h.rI z hz
end Rel
def Js.more(j:Js)(r:Rq):Js:=
 {j with reqs:=j.reqs++ [⟨r, []⟩],aW:=if r.ten∈j.aW.map (·.nm)then j.aW else j.aW++ [⟨r.ten, [],0⟩]}
namespace Rel
variable{g g':Gh}{j:Js}{s:St}
theorem more(h:Rel g j s)(hi:Inv s)(r:Rq)(hr:s.req r.id=none):Rel g (j.more r) (s.more r):=by
 obtain⟨hc,hw,hk⟩:=St.fresh hi hr;have Ak: ∀i,i≠r.id->(s.more r).ten i=s.ten i:=by
  intro i cC;unfold St.ten St.req St.more;dsimp only;rw[List.find?_append];cases hf:s.reqs.find? (fun x=>x.id==i)with
  |some x=>rfl
  |none=>simp[Ne.symm cC]
 have aaB: ∀a∈s.af,a.id≠r.id:=fun a ha e=>hk (e▸hi.bS a ha);have Sh: ∀t,(s.more r).runs t=s.runs t:=fun t=>by unfold St.runs;exact List.countP_congr fun a ha=>by rw[Ak a.id (aaB a ha)]
 have N0: ∀t∈(j.more r).aW,t∈j.aW∨(t=⟨r.ten, [],0⟩∧r.ten∉j.aW.map (·.nm)):=by
  intro t ht;unfold Js.more at ht;dsimp only at ht;split at ht
  ·exact .inl ht
  ·rename_i hn;rcases List.mem_append.1 ht with ht|ht
   ·exact .inl ht
   ·exact .inr ⟨cY.1 ht,hn⟩
 have Ei:r.ten∉j.aW.map (·.nm)->s.aZ r.ten= []∧s.runs r.ten=0:=by
  intro hn;constructor
  ·apply Classical.byContradiction;intro cC;obtain⟨i,hm⟩:=List.exists_mem_of_ne_nil _ cC;obtain⟨h5,h6⟩:=St.nG hi hm;obtain⟨q,hq,yH,e⟩:=St.cz h6;apply hn;have:=h.ten q yH;unfold St.ten at h5;rw[hq]at h5;dsimp only at h5;rw[h5]at this;exact this
  ·unfold St.runs;rw[List.countP_eq_zero];intro a ha e;obtain⟨q,hq,yH,_⟩:=St.cz (hi.bS a ha);apply hn;have:=h.ten q yH;unfold St.ten at e;rw[hq]at e;rw[show q.ten=r.ten by simpa using e]at this;exact this
 refine⟨h.c,h.now,h.begun,h.pull,h.ring, ?_,fun q hq=> ?_, ?_,fun t ht=> ?_,fun t ht=> ?_,fun q hq=> ?_,fun t ht=> ?_,h.hp,h.heap,h.FO,h.rI,h.cnd,h.cin,h.dr⟩
 ·show(j.reqs++ [(⟨r, []⟩:Rr)]).map (fun r:Rr=>r.q)=s.reqs++ [r];rw[aH,h.reqs];rfl
 ·rcases List.mem_append.1 hq with hq|hq
  ·exact h.al q hq
  ·obtain rfl:=cY.1 hq;show []=s.nums r.id;unfold St.nums;have:s.af.filter (fun a=>a.id==r.id)= []:=List.filter_eq_nil_iff.2 fun a ha=>by simpa using aaB a ha
   rw[this];rfl
 ·show((if r.ten∈j.aW.map (·.nm)then j.aW else j.aW++ [⟨r.ten, [],0⟩]).map (·.nm)).Nodup;split
  ·exact h.rj
  ·rename_i hn;rw[aH,List.nodup_append];refine⟨h.rj,by simp,fun u hu v hv e=>hn ?_⟩;simp at hv;rw[<-hv,<-e];exact hu
 ·show t.wt=s.aZ t.nm;rcases N0 t ht with ht|⟨rfl,hn⟩
  ·exact h.wt t ht
  ·exact(Ei hn).1.symm
 ·rw[Sh];rcases N0 t ht with ht|⟨rfl,hn⟩
  ·exact h.rn t ht
  ·show(0:Int)=s.runs r.ten;rw[(Ei hn).2];rfl
 ·have kx: ∀u,u∈j.aW.map (·.nm)∨u=r.ten->u∈(j.more r).aW.map (·.nm):=by
   intro u hu;show u∈(if r.ten∈j.aW.map (·.nm)then j.aW else j.aW++ [⟨r.ten, [],0⟩]).map (·.nm);split
   ·rename_i KB;rcases hu with hu|hu
    ·exact hu
    ·rw[hu];exact KB
   ·rw[aH];rcases hu with hu|hu
    ·exact List.mem_append_left _ hu
    ·exact List.mem_append_right _ (by simp[hu])
  apply kx;rcases List.mem_append.1 hq with hq|hq
  ·exact .inl (h.ten q hq)
  ·exact .inr (by rw[cY.1 hq])
 ·rcases N0 t ht with ht|⟨rfl,hn⟩
  ·obtain⟨q,hq,e⟩:=h.zM t ht;exact⟨q,List.mem_append_left _ hq,e⟩
  ·exact⟨r,List.mem_append_right _ (cY.2 rfl),rfl⟩
theorem aq(h:Rel g j s)(cs:List Kn)(l:List Cn)(h1:(cs.map (·.n)).Nodup)(h2: ∀k∈cs,k.n∈l.map (·.n))(h3: ∀c,({j with bT:=cs}:Js).drains c=({s with aq:=l}:St).drains c):Rel g {j with bT:=cs} {s with aq:=l}:=
 ⟨h.c,h.now,h.begun,h.pull,h.ring,h.reqs,h.al,h.rj,h.wt,h.rn,h.ten,h.zM,h.hp,h.heap,h.FO,h.rI,h1,h2,h3⟩
theorem kept(h:Rel g j s)(c:Int)(p:Nat)(hn:c∉j.bT.map (·.n))(hc:c∈s.aq.map (·.n)):Rel g {j with bT:=j.bT++ [⟨c,p, [],false⟩]} s:=by
 refine h.aq (j.bT++ [⟨c,p, [],false⟩]) s.aq ?_ (fun k hk=> ?_) (fun d=> ?_)
 ·rw[aH,List.nodup_append];refine⟨h.cnd,by simp,fun u hu v hv e=>hn ?_⟩;simp at hv;rw[<-hv,<-e];exact hu
 ·rcases List.mem_append.1 hk with hk|hk
  ·exact h.cin k hk
  ·rw[cY.1 hk];exact hc
 ·have:=h.dr d;show _=s.drains d;rw[<-this];unfold Js.drains;dsimp only;rw[List.find?_append];cases hf:j.bT.find? (fun k=>k.n==d)with
  |some k=>rfl
  |none=>
   by_cases e:c=d
   ·subst e;simp
   ·simp[e]
theorem DR{l:List Kn}{c d:Int}(cC:d≠c):(l.filter (fun k=>k.n !=c)).find? (fun k:Kn=>k.n==d)=l.find? (fun k=>k.n==d):=by
 rw[List.find?_filter];congr 1;funext k;by_cases e2:k.n=d
 ·simp[e2,cC]
 ·simp[e2]
theorem rQ{l:List Kn}{c:Int}:(l.filter (fun k=>k.n !=c)).find? (fun k:Kn=>k.n==c)=none:=by rw[List.find?_eq_none];intro k hk;have:=(aR.1 hk).2;simpa using this
theorem YS(h:Rel g j s)(c:Int)(hd:j.drains c=false):Rel g {j with bT:=j.bT.filter (fun k=>k.n !=c)} s:=by
 refine h.aq (j.bT.filter (fun k=>k.n !=c)) s.aq ((List.filter_sublist.map _).nodup h.cnd) (fun k hk=>h.cin k (aR.1 hk).1) (fun d=> ?_);have:=h.dr d;show _=s.drains d;rw[<-this];by_cases e:d=c
 ·subst e;rw[hd];unfold Js.drains;dsimp only;rw[rQ]
 ·unfold Js.drains;dsimp only;rw[DR e]
theorem forget(h:Rel g j s)(c:Int):Rel g {j with bT:=j.bT.filter (fun k=>k.n !=c)} {s with aq:=s.aq.filter (·.n !=c)}:=by
 refine h.aq (j.bT.filter (fun k=>k.n !=c)) (s.aq.filter (·.n !=c)) ((List.filter_sublist.map _).nodup h.cnd) (fun k hk=> ?_) (fun d=> ?_)
 ·obtain⟨h1,h2⟩:=aR.1 hk;obtain⟨x,hx,e⟩:=aA.1 (h.cin k h1);exact aA.2 ⟨x,aR.2 ⟨hx,by rw[e];exact h2⟩,e⟩
 ·have:=h.dr d;by_cases e:d=c
  ·subst e;unfold Js.drains St.drains;dsimp only;rw[rQ];have:(s.aq.filter (fun x=>x.n !=d)).find? (fun x:Cn=>x.n==d)=none:=by
    rw[List.find?_eq_none];intro k hk;have:=(aR.1 hk).2;simpa using this
   rw[this]
  ·unfold Js.drains St.drains at this⊢;dsimp only;rw[DR e,this,List.find?_filter];have:(fun a:Cn=>decide ((a.n !=c)=true∧(a.n==d)=true))=fun a=>a.n==d:=by
    funext k;by_cases e2:k.n=d
    ·simp[e2,e]
    ·simp[e2]
   rw[this]
theorem bytes(h:Rel g j s)(f:Kn->Kn)(h1: ∀k,(f k).n=k.n)(h2: ∀k,(f k).dr=k.dr)(c:Int):Rel g {j with bT:=upd (fun k:Kn=>k.n) c f j.bT} s:=by
 have em:(upd (fun k:Kn=>k.n) c f j.bT).map (·.n)=j.bT.map (·.n):=ib (fun k:Kn=>k.n) (fun k _ _=>h1 k);refine h.aq (upd (fun k:Kn=>k.n) c f j.bT) s.aq (by rw[em];exact h.cnd) (fun k hk=> ?_) (fun d=> ?_)
 ·have:k.n∈(upd (fun k:Kn=>k.n) c f j.bT).map (·.n):=aA.2 ⟨k,hk,rfl⟩;rw[em]at this;obtain⟨y,hy,e⟩:=aA.1 this;rw[<-e];exact h.cin y hy
 ·show _=s.drains d;rw[<-h.dr d];unfold Js.drains upd;dsimp only;rw[List.find?_map];have e:((fun k:Kn=>k.n==d)∘fun x=>if x.n=c then f x else x)=fun k=>k.n==d:=by
   funext k;simp only[Function.comp_def];split
   ·rw[h1]
   ·rfl
  rw[e];cases hf:j.bT.find? (fun k=>k.n==d)with
  |none=>rfl
  |some k=>
   simp only[Option.map_some];split
   ·exact h2 k
   ·rfl
theorem drain(h:Rel g j s)(hi:Inv s)(c:Int)(hc:c∈j.bT.map (·.n)):Rel g {j with bT:=upd (fun k:Kn=>k.n) c (fun k=>{k with dr:=true}) j.bT} {s with aq:=aK (fun x=>x.n==c) (fun x=>{x with drains:=true}) s.aq}:=by
 have em:(upd (fun k:Kn=>k.n) c (fun k=>{k with dr:=true}) j.bT).map (·.n)=j.bT.map (·.n):=ib (fun k:Kn=>k.n) (fun _ _ _=>rfl);have em':(aK (fun x=>x.n==c) (fun x=>({x with drains:=true}:Cn)) s.aq).map (·.n)=s.aq.map (·.n):=cr _ (fun x:Cn=>{x with drains:=true}) (·.n) (fun _=>rfl) _;refine h.aq (upd (fun k:Kn=>k.n) c (fun k=>{k with dr:=true}) j.bT) _ (by rw[em];exact h.cnd) (fun k hk=> ?_) (fun d=> ?_)
 ·have:k.n∈(upd (fun k:Kn=>k.n) c (fun k=>{k with dr:=true}) j.bT).map (·.n):=aA.2 ⟨k,hk,rfl⟩;rw[em]at this;obtain⟨y,hy,e⟩:=aA.1 this;rw[em',<-e];exact h.cin y hy
 ·have hd:=h.dr d;unfold Js.drains St.drains upd at*;dsimp only;rw[cD (fun x:Cn=>x.n) c _ hi.cn,List.find?_map,List.find?_map];have e1:((fun k:Kn=>k.n==d)∘fun x=>if x.n=c then({x with dr:=true}:Kn)else x)=fun k=>k.n==d:=by
   funext k;simp only[Function.comp_def];split<;>rfl
  have e2:((fun k:Cn=>k.n==d)∘fun x:Cn=>if(x.n==c)=true then({x with drains:=true}:Cn)else x)=fun k=>k.n==d:=by funext k;simp only[Function.comp_def];split<;>rfl
  rw[e1,e2];by_cases e:d=c
  ·subst e;obtain⟨k,hk,ek⟩:=aA.1 hc;have BO:(j.bT.find? (fun k=>k.n==d)).isSome:=List.find?_isSome.2 ⟨k,hk,by simpa using ek⟩;obtain⟨x,hx,ex⟩:=aA.1 (h.cin k hk);have GU:(s.aq.find? (fun k=>k.n==d)).isSome:=List.find?_isSome.2 ⟨x,hx,by simp[ex,ek]⟩;obtain⟨k',jU⟩:=Option.isSome_iff_exists.1 BO;obtain⟨x',mH⟩:=Option.isSome_iff_exists.1 GU;have ek':k'.n=d:=by simpa using List.find?_some jU
   have ex':x'.n=d:=by simpa using List.find?_some mH
   rw[jU,mH];simp[ek',ex']
  ·cases hf:j.bT.find? (fun k=>k.n==d)with
   |none=>
    rw[hf]at hd;cases A9:s.aq.find? (fun k=>k.n==d)with
    |none=>rfl
    |some x=>
     rw[A9]at hd;have ex:x.n≠c:=by rw[show x.n=d by simpa using List.find?_some A9];exact e
     simp[ex];simpa using hd
   |some k=>
    rw[hf]at hd;have ek:k.n≠c:=by rw[show k.n=d by simpa using List.find?_some hf];exact e
    cases A9:s.aq.find? (fun k=>k.n==d)with
    |none=>rw[A9]at hd;simp[ek];simpa using hd
    |some x=>
     rw[A9]at hd;have ex:x.n≠c:=by rw[show x.n=d by simpa using List.find?_some A9];exact e
     simp[ek,ex];exact hd
end Rel
end Pj
namespace Mc
open bJ
def Best(now:Int)(l:List At)(b:Option (Nat×Int)):Prop:=
 match b with
 |none=> ∀(k:Nat) (a:At),l[k]?=some a->now<a.eV
 |some (i,t)=>t<=now∧(∃a,l[i]?=some a∧a.eV=t)∧ ∀(k:Nat) (a:At),l[k]?=some a->a.eV<=now->t<a.eV∨(t=a.eV∧i<=k)
theorem AO(now:Int): ∀(l pre:List At) (b:Option (Nat×Int)),Best now pre b->Best now (pre++l) (St.dD now l pre.length b)
 | [],pre,b,h=>by rw[List.append_nil];exact h
 |a::l,pre,b,h=>by
  unfold St.dD;have e:pre++a::l=(pre++ [a])++l:=by simp
  rw[e];have hl:(pre++ [a]).length=pre.length+1:=by simp
  rw[<-hl];refine AO now l (pre++ [a]) _ ?_;have at': ∀k x,(pre++ [a])[k]?=some x->pre[k]?=some x∨(k=pre.length∧x=a):=by
   intro k x hx;rcases Nat.lt_or_ge k pre.length with h|h
   ·rw[List.getElem?_append_left h]at hx;exact .inl hx
   ·rw[List.getElem?_append_right h]at hx
    match hk:k-pre.length with
    |0=>rw[hk]at hx;simp at hx;exact .inr ⟨by omega,hx.symm⟩
    |m+1=>rw[hk]at hx;simp at hx
  have ata:(pre++ [a])[pre.length]?=some a:=by simp
  by_cases ht:a.eV<=now
  ·rw[if_pos ht]
   match b,h with
   |none,h=>
    refine⟨ht,⟨a,ata,rfl⟩,fun k x hx hn=> ?_⟩;rcases at' k x hx with hx|⟨rfl,rfl⟩
    ·have:=h k x hx;omega
    ·right;exact⟨rfl,ae _⟩
   |some (i,t),⟨h1,⟨y,hy,ey⟩,h3⟩=>
    have ay:i<pre.length:=(cK.1 hy).1;by_cases h4:a.eV<t
    ·simp only[if_pos h4];refine⟨ht,⟨a,ata,rfl⟩,fun k x hx hn=> ?_⟩;rcases at' k x hx with hx|⟨rfl,rfl⟩
     ·have:=h3 k x hx hn;left;omega
     ·right;exact⟨rfl,ae _⟩
    ·simp only[if_neg h4];refine⟨h1,⟨y,by rw[List.getElem?_append_left ay];exact hy,ey⟩,fun k x hx hn=> ?_⟩;rcases at' k x hx with hx|⟨rfl,rfl⟩
     ·exact h3 k x hx hn
     ·omega
  ·rw[if_neg ht]
   match b,h with
   |none,h=>
    intro k x hx;rcases at' k x hx with hx|⟨rfl,rfl⟩
    ·exact h k x hx
    ·omega
   |some (i,t),⟨h1,⟨y,hy,ey⟩,h3⟩=>
    have ay:i<pre.length:=(cK.1 hy).1;refine⟨h1,⟨y,by rw[List.getElem?_append_left ay];exact hy,ey⟩,fun k x hx hn=> ?_⟩;rcases at' k x hx with hx|⟨rfl,rfl⟩
    ·exact h3 k x hx hn
    ·omega
namespace St
variable{s:St}
theorem Dz:Best s.now s.af (dD s.now s.af 0 none):=by have:=AO s.now s.af [] none (fun k a h=>by simp at h);simpa using this
theorem IQ{f:Nat}(h:s.due=none):cV f s=s:=by
 match f with
 |0=>rfl
 |f+1=>unfold cV;rw[h]
theorem IU{f i:Nat}{a:At}(h:s.due=some i)(ha:s.af[i]?=some a):cV (f+1) s=cV f (((s.say a.conn (aD a.id a.n)).aS i).again a.id true):=by
 conv=>lhs;unfold cV
 rw[h];dsimp only;rw[ha]
theorem Ge{f:Nat}{id:Int}(h:s.nums id= []):stops f s id=s:=by
 match f with
 |0=>rfl
 |f+1=>
  unfold stops;have:s.af.findIdx? (·.id==id)=none:=by rw[List.findIdx?_eq_none_iff];intro a ha;unfold nums at h;have:=List.filter_eq_nil_iff.1 (List.map_eq_nil_iff.1 h) a ha;simpa using this
  rw[this]
theorem MJ{id n:Int}{t:List Int}(h:s.nums id=n::t): ∃i a,s.af.findIdx? (·.id==id)=some i∧s.af[i]?=some a∧a.id=id∧a.n=n:=by
 unfold nums at h;revert h;generalize s.af=l;intro h
 induction l with
 |nil=>simp at h
 |cons x l ih=>
  rw[List.filter_cons]at h;by_cases e:(x.id==id)=true
  ·rw[if_pos e,List.map_cons]at h;refine⟨0,x,by rw[List.findIdx?_cons,e];rfl,rfl,by simpa using e,(List.cons.inj h).1⟩
  ·rw[if_neg e]at h;obtain⟨i,a,h1,h2,h3,h4⟩:=ih h;have e':(x.id==id)=false:=by simpa using e
   exact⟨i+1,a,by rw[List.findIdx?_cons,e',h1];rfl,by simpa using h2,h3,h4⟩
theorem JD{f i:Nat}{id:Int}{a:At}(h:s.af.findIdx? (·.id==id)=some i)(ha:s.af[i]?=some a):stops (f+1) s id=stops f ((s.say a.conn (aD id a.n)).aS i) id:=by
 conv=>lhs;unfold stops
 rw[h];dsimp only;rw[ha]
def at?(s:St)(k:Int×Int):Option Nat:=s.af.findIdx? (fun a=>decide ((a.id,a.n)=k))
theorem aae(ho:Ok s){a:At}(h:a∈s.af): ∃i,s.at? (a.id,a.n)=some i∧s.af[i]?=some a:=by
 have:(s.at? (a.id,a.n)).isSome:=by unfold at?;rw[List.findIdx?_isSome,List.any_eq_true];exact⟨a,h,by simp⟩
 obtain⟨i,hi⟩:=Option.isSome_iff_exists.1 this;obtain⟨b,hb,e⟩:=eJ hi;have e':(b.id,b.n)=(a.id,a.n):=by simpa using e
 refine⟨i,hi, ?_⟩;rw[hb,ck (k:=fun a:At=>(a.id,a.n)) ho.key (dn hb) h e']
theorem KL(ho:Ok s){i k:Nat}{a b:At}(h1:s.af[i]?=some a)(h2:s.af[k]?=some b)(e:(a.id,a.n)=(b.id,b.n)):i=k:=by
 have h:=List.pairwise_iff_getElem.1 ho.key;obtain⟨hi,rfl⟩:=cK.1 h1;obtain⟨hk,rfl⟩:=cK.1 h2;rcases Nat.lt_trichotomy i k with h'|h'|h'
 ·exact absurd (by rw[List.getElem_map,List.getElem_map];exact e) (h i k (by simpa using hi) (by simpa using hk) h')
 ·exact h'
 ·exact absurd (by rw[List.getElem_map,List.getElem_map];exact e.symm) (h k i (by simpa using hk) (by simpa using hi) h')
theorem UB(ho:Ok s){i:Nat}{a:At}(h:s.af[i]?=some a):s.mine a.conn a.id a.n=some i:=by
 obtain⟨k,hk⟩: ∃k,s.xU a.id a.n=some k:=by
  have:(s.xU a.id a.n).isSome:=by unfold xU;rw[List.findIdx?_isSome,List.any_eq_true];exact⟨a,dn h,by simp⟩
  exact Option.isSome_iff_exists.1 this
 obtain⟨b,hb,e⟩:=eJ hk;simp only[bZ,beq_iff_eq]at e;have:i=k:=KL ho h hb (by rw[e.1,e.2]);subst this;rw[hb]at h;cases h;unfold mine;rw[hk];dsimp only;rw[hb];simp
theorem qV(ho:Ok s){c id n:Int}(h:s.mine c id n=none): ∀a∈s.af,¬(a.id=id∧a.n=n∧a.conn=c):=by intro a ha e;obtain⟨i,hi⟩:=List.getElem?_of_mem ha;have:=UB ho hi;rw[e.1,e.2.1,e.2.2,h]at this;cases this
def LJ(s:St)(k:Int×Int):St:=match s.at? k with|some i=>s.aS i|none=>s
theorem xo(ho:Ok s){i:Nat}{a:At}(h:s.af[i]?=some a):s.LJ (a.id,a.n)=s.aS i:=by obtain⟨k,h1,h2⟩:=aae ho (dn h);have:i=k:=KL ho h h2 rfl;subst this;unfold LJ;rw[h1]
end St
end Mc
namespace Pj
open Mc bJ
namespace Rel
variable{g:Gh}{j:Js}{s:St}
theorem YN(h:Rel g j s){i k:Nat}{a b:At}(h1:s.af[i]?=some a)(h2:s.af[k]?=some b):i<k->g.sr (key a)<g.sr (key b):=by intro ay;have hp:=List.pairwise_iff_getElem.1 h.FO;obtain⟨hi,rfl⟩:=cK.1 h1;obtain⟨hk,rfl⟩:=cK.1 h2;have:=hp i k (by simpa using hi) (by simpa using hk) ay;rw[List.getElem_map,List.getElem_map]at this;exact this
theorem DB(h:Rel g j s)(hh: ∀a,j.hp.head?=some a->s.now<a.eV):s.due=none:=by
 have hb:=St.Dz (s:=s);unfold St.due;cases hd:St.dD s.now s.af 0 none with
 |none=>rfl
 |some x=>
  obtain⟨i,t⟩:=x;rw[hd]at hb;obtain⟨h1,⟨a,ha,ea⟩,_⟩:=hb;exfalso;have hm:a∈j.hp:=h.hp.mem_iff.2 (dn ha);obtain⟨k,hk⟩:=List.getElem?_of_mem hm;cases hp:j.hp with
  |nil=>rw[hp]at hm;cases hm
  |cons b l=>have h2:=hh b (by rw[hp];rfl);have acE:=(cK.1 hk).1;have:=h.heap.least (kL g) (ae _) k acE b a (by rw[hp];rfl) hk;unfold gH at this;omega
theorem O7(h:Rel g j s){b:At}(hb:j.hp.head?=some b)(ht:b.eV<=s.now): ∃i,s.due=some i∧s.af[i]?=some b:=by
 have Kv:=St.Dz (s:=s);have hbm:b∈j.hp:=List.mem_of_head? hb;obtain⟨k,hk⟩:=List.getElem?_of_mem (h.hp.mem_iff.1 hbm);unfold St.due;cases hd:St.dD s.now s.af 0 none with
 |none=>rw[hd]at Kv;have:=Kv k b hk;omega
 |some x=>
  obtain⟨i,t⟩:=x;rw[hd]at Kv;obtain⟨h1,⟨a,ha,ea⟩,h3⟩:=Kv;refine⟨i,rfl, ?_⟩;have hm:a∈j.hp:=h.hp.mem_iff.2 (dn ha);obtain⟨m,Eg⟩:=List.getElem?_of_mem hm;have acK:=(cK.1 Eg).1;have hl:=h.heap.least (kL g) (ae _) m acK b a (by rw[<-List.head?_eq_getElem?];exact hb) Eg;have h4:=h3 k b hk ht;unfold gH at hl;have hik: ¬i<k:=fun ay=>by have:=h.YN ha hk ay;omega
  have:i=k:=by omega
  subst this;exact hk
end Rel
end Pj
namespace Mc
open bJ
namespace St
variable{s:St}
def slow(s:St)(a:At):Bool:=decide (s.c.he<=s.now-a.k7) &&(match s.req a.id with|some r=> !r.bn|none=>false)
def dG(s:St)(a:At):St:=(s.bu a.id (fun r=>{r with bn:=true})).a6 a.id false
theorem oH(a:At):(s.dG a).af=s.af∧(s.dG a).c=s.c∧(s.dG a).now=s.now∧(s.dG a).wait=s.wait∧(s.dG a).aq=s.aq∧(s.dG a).out=s.out:=by obtain⟨_,e1,e2,e3,e4,e5,e6,e7⟩:=fQ (s:=s.bu a.id (fun r=>{r with bn:=true})) a.id false;exact⟨e1,e6,e7,e3,e4,e5⟩
theorem lT(hi:Inv s)(id i:Int)(f:Rq->Rq)(h1: ∀r,(f r).id=r.id):(s.bu id f).req i=(s.req i).map (fun r=>if i=id then f r else r):=by
 have jJ:=hi.rid;unfold ks at jJ;rw[aG]at jJ;unfold req bu;dsimp only;rw[cD (fun r:Rq=>r.id) id f jJ,List.find?_map];have e:((fun x:Rq=>x.id==i)∘fun x=>if(x.id==id)=true then f x else x)=fun x=>x.id==i:=by
  funext x;simp only[Function.comp_def];split
  ·rw[h1]
  ·rfl
 rw[e];cases hf:s.reqs.find? (fun x=>x.id==i)with
 |none=>rfl
 |some r=>
  have:r.id=i:=by simpa using List.find?_some hf
  simp only[Option.map_some,this,beq_iff_eq]
theorem Bn(id i:Int)(f:Bool):(s.a6 id f).req i=s.req i:=by unfold req;rw[(fQ (s:=s) id f).2.2.1]
theorem D6(hi:Inv s){a:At}(ha:a∈s.af)(hw:s.waits a.id=false):Inv (s.dG a):=by refine lu (iq hi a.id (fun r=>{r with bn:=true}) (fun _=>⟨rfl,rfl⟩)) ?_ hw _;rw[nS a.id (fun r=>{r with bn:=true}) (fun _=>⟨rfl,rfl⟩)];exact hi.bS a ha
theorem pZ: ∀(l:List At) (s s0:St),Inv s->Ok s->(∀a∈l,a∈s.af)->(l.map fun a=>(a.id,a.n)).Nodup->s.c.he≠0->0<=s.c.he->s0.c=s.c->s0.now=s.now->(∀a∈l,(s0.req a.id).map (·.bn)=(s.req a.id).map (·.bn))->l.foldl bA s=(l.filter s0.slow).foldl dG s
 | [],_,_,_,_,_,_,_,_,_,_,_=>rfl
 |a::l,s,s0,hi,ho,hm,hn,h0,xt,ec,en,hh=>by
  rw[List.foldl_cons,List.filter_cons];rw[List.map_cons,List.nodup_cons]at hn;have rR:=hm a (dy ..);obtain⟨r,hr,KI,oK⟩:=cz (hi.bS a rR);have hha:=hh a (dy ..);rw[hr]at hha;have Wb:s0.slow a=(decide (s.c.he<=s.now-a.k7) && !r.bn):=by
   unfold slow;rw[ec,en];cases hq:s0.req a.id with
   |none=>rw[hq]at hha;cases hha
   |some q=>
    rw[hq]at hha;have:q.bn=r.bn:=by simpa using hha
    dsimp only;rw[this]
  have LZ:0<s.count a.id:=by unfold count;rw[List.countP_pos_iff];exact⟨a,rR,by simp⟩
  have e1:s.bA a=if s0.slow a=true then s.dG a else s:=by
   rw[Wb];unfold bA dG;rw[hr];dsimp only;by_cases hhg:r.bn=true
   ·rw[if_neg (by simp[hhg]),if_neg (by simp[hhg])]
   ·have hhf:r.bn=false:=by simpa using hhg
    obtain⟨h1,h2⟩:=ho.hd r KI hhf;rw[oK]at h1 h2;have hw:=h2 LZ;have pX:s.count a.id=1:=by omega
    by_cases ht:s.c.he<=s.now-a.k7
    ·rw[if_pos (by simp[hhf,hw,pX,ht];omega),if_pos (by simp[hhf,ht])]
    ·rw[if_neg (by simp[ht]),if_neg (by simp[ht])]
  by_cases hs:s0.slow a=true
  ·rw[e1,if_pos hs,if_pos hs,List.foldl_cons];have hhf:r.bn=false:=by
    rw[Wb,bZ]at hs;simpa using hs.2
   obtain⟨h1,h2⟩:=ho.hd r KI hhf;rw[oK]at h1 h2;have hw:=h2 LZ;obtain⟨s1,s2,s3,_⟩:=oH (s:=s) a;refine pZ l _ s0 (D6 hi rR hw) ?_ (fun b hb=>by rw[s1];exact hm b (bt _ hb)) hn.2 (by rw[s2];exact h0) (by rw[s2];exact xt) (by rw[s2];exact ec) (by rw[s3];exact en) (fun b hb=> ?_)
   ·have:=ho.bA hi a;rw[e1,if_pos hs]at this;exact this
   ·rw[hh b (bt _ hb)];unfold dG;rw[Bn,lT hi a.id b.id (fun r=>{r with bn:=true}) (fun _=>rfl)];have cC:b.id≠a.id:=by
     intro e;have iI:=hm b (bt _ hb);have:2<=s.count a.id:=by
      unfold count;have oa:a≠b:=fun e2=>hn.1 (aA.2 ⟨b,hb,by rw[e2]⟩);rw[List.countP_eq_length_filter];exact Pj.jN (l:= [a,b]) (by simp[oa]) (fun x hx=>by
       simp at hx;rcases hx with rfl|rfl
       ·exact aR.2 ⟨rR,by simp⟩
       ·exact aR.2 ⟨iI,by simpa using e⟩)
     omega
    simp only[if_neg cC];cases s.req b.id<;>rfl
  ·rw[e1,if_neg hs,if_neg hs];exact pZ l s s0 hi ho (fun b hb=>hm b (bt _ hb)) hn.2 h0 xt ec en (fun b hb=>hh b (bt _ hb))
theorem D8(hi:Inv s)(ho:Ok s)(h0:s.c.he≠0)(xt:0<=s.c.he):s.eE=(s.af.filter s.slow).foldl dG s:=
 pZ s.af s s hi ho (fun _ h=>h) ho.key h0 xt rfl rfl (fun _ _=>rfl)
theorem Ij(h0:s.c.he=0):s.eE=s:=by
 unfold eE;have: ∀(l:List At),l.foldl bA s=s:=by
  intro l
  induction l with
  |nil=>rfl
  |cons a l ih=>
   rw[List.foldl_cons];have:s.bA a=s:=by
    unfold bA;split
    ·rfl
    ·rw[if_neg (by simp[h0])]
   rw[this];exact ih
 exact this _
end St
end Mc
namespace Mc
open bJ
namespace St
variable{s:St}
def gJ(s:St)(c:Int):List Int:=(s.reqs.filter (·.conn==c)).map (·.id)
def vk(c:Int)(b:Option Int)(r:Rq):Option Int:=if r.conn==c &&(match b with|none=>true|some i=>decide (r.id<i))then some r.id else b
theorem Cf(c:Int)(b:Option Int)(r:Rq):(vk c b r=some r.id∧r.conn=c∧ ∀k,b=some k->r.id<k)∨(vk c b r=b∧(r.conn=c-> ∃k,b=some k∧k<=r.id)):=by
 unfold vk;by_cases e:r.conn=c
 ·cases b with
  |none=>left;simp[e]
  |some k=>
   by_cases h:r.id<k
   ·left;refine⟨by simp[e,h],e,fun m hm=>by cases hm;exact h⟩
   ·right;refine⟨by simp[h],fun _=>⟨k,rfl,by omega⟩⟩
 ·right;exact⟨by simp[e],fun h=>absurd h e⟩
theorem sK(c:Int): ∀(l:List Rq) (b o:Option Int),l.foldl (vk c) b=o->(o=none->b=none∧ ∀r∈l,r.conn≠c)∧(∀i,o=some i->(b=some i∨ ∃r∈l,r.conn=c∧r.id=i)∧(∀r∈l,r.conn=c->i<=r.id)∧ ∀k,b=some k->i<=k)
 | [],b,o,h=>by have h':b=o:=h;subst h';exact⟨fun e=>⟨e,fun r hr=>by cases hr⟩,fun i e=>⟨.inl e,fun r hr=>(by cases hr),fun k hk=>by rw[e]at hk;cases hk;exact Int.le_refl _⟩⟩
 |r::l,b,o,h=>by
  rw[List.foldl_cons]at h;obtain⟨h1,h2⟩:=sK c l (vk c b r) o h;rcases Cf c b r with⟨e,hc,hk⟩|⟨e,hc⟩
  ·rw[e]at h1 h2;refine⟨fun ho=>absurd (h1 ho).1 (by simp),fun i hi=> ?_⟩;obtain⟨h3,h4,h5⟩:=h2 i hi;have h6:=h5 _ rfl;refine⟨?_,fun q hq XZ=> ?_,fun k jU=>by have:=hk k jU;omega⟩
   ·rcases h3 with h3|⟨q,hq,hh⟩
    ·exact .inr ⟨r,dy ..,hc,by simpa using h3⟩
    ·exact .inr ⟨q,bt _ hq,hh⟩
   ·rcases List.mem_cons.1 hq with e2|e2
    ·rw[e2];exact h6
    ·exact h4 q e2 XZ
  ·rw[e]at h1 h2;refine⟨fun ho=> ?_,fun i hi=> ?_⟩
   ·obtain⟨h3,h4⟩:=h1 ho;refine⟨h3,fun q hq=> ?_⟩;rcases List.mem_cons.1 hq with e2|e2
    ·rw[e2];intro Xy;obtain⟨k,hk,_⟩:=hc Xy;rw[h3]at hk;cases hk
    ·exact h4 q e2
   ·obtain⟨h3,h4,h5⟩:=h2 i hi;refine⟨?_,fun q hq XZ=> ?_,h5⟩
    ·rcases h3 with h3|⟨q,hq,hh⟩
     ·exact .inl h3
     ·exact .inr ⟨q,bt _ hq,hh⟩
    ·rcases List.mem_cons.1 hq with e2|e2
     ·rw[e2]at XZ⊢;obtain⟨k,hk,hle⟩:=hc XZ;have:=h5 k hk;omega
     ·exact h4 q e2 XZ
theorem EH(c:Int):s.least c=s.reqs.foldl (vk c) none:=rfl
theorem oP{c i:Int}:i∈s.gJ c↔ ∃r∈s.reqs,r.conn=c∧r.id=i:=by unfold gJ;simp[List.mem_map,List.mem_filter,and_assoc]
def iR(c:Int)(s:St)(id:Int):St:=(bH s.af.length s 0 id c).shut id
theorem rM(c id:Int):(s.iR c id).reqs=dropFirst (·.id==id) s.reqs:=by unfold iR;have h1:=eK s.af.length s 0 id c;have h2:=iE (bH s.af.length s 0 id c).af.length (bH s.af.length s 0 id c) id;show dropFirst (·.id==id) (stops (bH s.af.length s 0 id c).af.length (bH s.af.length s 0 id c) id).reqs=_;rw[h2.reqs,h1.reqs]
theorem BF(hi:Inv s)(c id:Int):Inv (s.iR c id):=ji ((eK s.af.length s 0 id c).inv hi) _
theorem pQ: ∀(L:List Int) (f:Nat) (s:St) (c:Int),Inv s->L.Perm (s.gJ c)->L.Pairwise (· < ·)->L.length<=f->aQ f s c=L.foldl (iR c) s
 | [],f,s,c,_,hp,_,_=>by
  have hn:s.least c=none:=by
   have:=sK c s.reqs none _ rfl;rw[<-EH]at this;cases hl:s.least c with
   |none=>rfl
   |some i=>
    rcases(this.2 i hl).1 with h|⟨r,hr,e⟩
    ·cases h
    ·have:i∈s.gJ c:=oP.2 ⟨r,hr,e⟩;rw[<-hp.mem_iff]at this;cases this
  match f with
  |0=>rfl
  |f+1=>unfold aQ;rw[hn];rfl
 |id::L,f,s,c,hi,hp,hs,hf=>by
  have jJ:=hi.rid;unfold ks at jJ;rw[aG]at jJ;rw[List.pairwise_cons]at hs;have hl:s.least c=some id:=by
   have:=sK c s.reqs none _ rfl;rw[<-EH]at this;have hm:id∈s.gJ c:=hp.mem_iff.1 (dy ..);obtain⟨r,hr,KG,hri⟩:=oP.1 hm;cases hl:s.least c with
   |none=>exact absurd KG ((this.1 hl).2 r hr)
   |some i=>
    obtain⟨h1,h2,_⟩:=this.2 i hl;have hle:=h2 r hr KG;rcases h1 with h1|⟨q,hq,XZ,Ix⟩
    ·cases h1
    ·have BP:i∈id::L:=hp.mem_iff.2 (oP.2 ⟨q,hq,XZ,Ix⟩);rcases List.mem_cons.1 BP with e|e
     ·rw[e]
     ·have:=hs.1 i e;omega
  match f,hf with
  |f+1,hf=>
   rw[List.foldl_cons];have e1:aQ (f+1) s c=aQ f (s.iR c id) c:=by
    conv=>lhs;unfold aQ
    rw[hl];rfl
   rw[e1];refine pQ L f _ c (BF hi c id) ?_ hs.2 (by simpa using hf);unfold gJ;rw[rM,jE (fun r:Rq=>r.id) id jJ,List.filter_filter];have e2:((s.reqs.filter (fun r=>r.conn==c &&r.id !=id)).map (·.id))=(s.gJ c).filter (· !=id):=by unfold gJ;rw[List.filter_map,List.filter_filter];congr 1;refine List.filter_congr fun r _=> ?_;simp only[Function.comp_def];rw[Bool.and_comm]
   rw[e2];have hnr:(s.gJ c).Nodup:=(List.filter_sublist.map _).nodup jJ;have h3:=hp.filter (· !=id);rw[List.filter_cons_of_neg (by simp)]at h3;have h4:L.filter (· !=id)=L:=List.filter_eq_self.2 fun x hx=>by
    have:=hs.1 x hx;have:x≠id:=by omega
    simpa using this
   rw[h4]at h3;exact h3
theorem oV: ∀(f:Nat) (s:St) (i:Nat) (id c:Int),Inv s->Ok s->s.af.length<=f+i->bH f s i id c=(((s.af.drop i).filter (fun a=>a.id==id &&a.conn==c)).map (fun a=>(a.id,a.n))).foldl LJ s
 |0,s,i,id,c,_,_,h=>by have:s.af.drop i= []:=List.drop_eq_nil_of_le (by omega);rw[this];rfl
 |f+1,s,i,id,c,hi,ho,h=>by
  unfold bH;cases ha:s.af[i]? with
  |none=>have:s.af.drop i= []:=List.drop_eq_nil_of_le (List.getElem?_eq_none_iff.1 ha);rw[this];rfl
  |some a=>
   obtain⟨ay,ea⟩:=cK.1 ha;have hd:s.af.drop i=a::s.af.drop (i+1):=by rw[<-ea];exact(List.getElem_cons_drop (h:=ay)).symm
   rw[hd,List.filter_cons];dsimp only;by_cases e:(a.id==id &&a.conn==c)=true
   ·rw[if_pos e,if_pos e,List.map_cons,List.foldl_cons,xo ho ha];have e1:=(cG (s:=s) i).2.1;have hdl:(s.aS i).af.drop i=s.af.drop (i+1):=by
     rw[e1,List.eraseIdx_eq_take_drop_succ,List.drop_append_of_le_length (by rw[List.length_take];omega),List.drop_take];simp
    rw[oV f (s.aS i) i id c (br hi i) (ho.aS hi i) (by rw[e1];have:=eH ha;omega),hdl]
   ·rw[if_neg e,if_neg e,oV f s (i+1) id c hi ho (by omega)]
def nK(s:St)(a:At):St:=(s.LJ (a.id,a.n)).again a.id false
theorem nu(id:Int):(s.again id false).af=s.af:=by
 unfold again;split
 ·rfl
 ·split
  ·rfl
  ·split
   ·rename_i h;simp at h
   ·simp only[Bool.false_eq_true,if_false];exact(fQ (s:=s) id true).2.1
theorem pP: ∀(L:List At) (f:Nat) (s:St) (c:Int),Inv s->Ok s->L=s.af.filter (·.conn==c)->L.length<=f->aP f s c=L.foldl nK s
 | [],f,s,c,_,_,hL,_=>by
  have hn:s.af.findIdx? (·.conn==c)=none:=by rw[List.findIdx?_eq_none_iff];intro a ha;have:=List.filter_eq_nil_iff.1 hL.symm a ha;simpa using this
  match f with
  |0=>rfl
  |f+1=>unfold aP;rw[hn];rfl
 |a::L,f,s,c,hi,ho,hL,hf=>by
  have hs:(s.af.findIdx? (·.conn==c)).isSome:=by
   rw[List.findIdx?_isSome,List.any_eq_true];have:a∈s.af.filter (·.conn==c):=by rw[<-hL];exact dy ..
   exact⟨a,(aR.1 this).1,(aR.1 this).2⟩
  obtain⟨i,ju⟩:=Option.isSome_iff_exists.1 hs;obtain⟨b,hb,hp⟩:=eJ ju;obtain⟨ay,_,TK⟩:=List.findIdx?_eq_some_iff_getElem.1 ju;have X8:s.af=s.af.take i++b::s.af.drop (i+1):=by rw[<-(cK.1 hb).2,List.getElem_cons_drop,List.take_append_drop]
  have aa5:(s.af.take i).filter (·.conn==c)= []:=by rw[List.filter_eq_nil_iff];intro x hx;obtain⟨k,hk,rfl⟩:=List.getElem_of_mem hx;rw[List.length_take]at hk;have:=TK k (by omega);rw[List.getElem_take];simpa using this
  have acu:s.af.filter (·.conn==c)=b::(s.af.drop (i+1)).filter (·.conn==c):=by
   conv=>lhs;rw[X8]
   rw[List.filter_append,aa5,List.nil_append,List.filter_cons,if_pos hp]
  rw[acu]at hL;obtain⟨rfl,hL'⟩:=List.cons.inj hL
  match f,hf with
  |f+1,hf=>
   have e1:aP (f+1) s c=aP f ((s.aS i).again a.id false) c:=by
    conv=>lhs;unfold aP
    rw[ju];dsimp only;rw[hb]
   rw[e1,List.foldl_cons];have e2:s.nK a=(s.aS i).again a.id false:=by unfold nK;rw[xo ho hb]
   rw[e2];refine pP L f _ c (eC (br hi i) _ _) ((ho.aS hi i).again (br hi i) _ _) ?_ (by simpa using hf);rw[nu,(cG (s:=s) i).2.1,List.eraseIdx_eq_take_drop_succ,List.filter_append,aa5,List.nil_append];exact hL'
end St
end Mc
namespace Pj
open Mc bJ Rel
theorem sS(v c:Int): ∀(K:List (Int×Int)) (l:List At),K.foldl (fun l k=>l.map (renew k v)) l=l.map (fun a=>if key a∈K then{a with eV:=v}else a)
 | [],l=>by simp
 |k::K,l=>by
  rw[List.foldl_cons,sS v c K,aG];refine bY fun a _=> ?_;simp only[Function.comp_def];have hk:=(iC k v a).1;rw[hk];unfold renew;by_cases e:key a=k
  ·rw[if_pos e];have:key a∈k::K:=e▸dy ..;rw[if_pos this];split<;>rfl
  ·rw[if_neg e];have:key a∈k::K↔key a∈K:=by simp[e]
   by_cases h:key a∈K
   ·rw[if_pos h,if_pos (this.2 h)]
   ·rw[if_neg h,if_neg (fun h'=>h (this.1 h'))]
end Pj
namespace Mr
open Go.RowKit aM Mc
theorem below_drewN{B:Nat}{a b:World}(h:Below B a b)(n:Nat):Below B a (b.drewN n):=⟨h.os,h.tape,h.output,h.size,h.block⟩
def oD(now:Int)(i:Nat)(a:At)(b:Option (Nat×Int)):Option (Nat×Int):=
 if a.eV<=now then(match b with|none=>some (i,a.eV)|some (j,t)=>if a.eV<t then some (i,a.eV)else some (j,t))else b
theorem DC(now:Int)(a:At): ∀(l:List At) (i:Nat) (b:Option (Nat×Int)),St.dD now (l++ [a]) i b=oD now (i+l.length) a (St.dD now l i b)
 | [],i,b=>rfl
 |x::l,i,b=>by show St.dD now (l++ [a]) (i+1) _=_;rw[DC now a l (i+1),List.length_cons,Nat.add_assoc,Nat.add_comm 1];rfl
def xY:Option (Nat×Int)->Int
 |none=> -1
 |some (j,_)=>j
theorem DF{l:List At}{now:Int}{k:Nat}(hk:k<l.length):St.dD now (l.take (k+1)) 0 none=oD now k (l[k]'hk) (St.dD now (l.take k) 0 none):=by rw[fp hk,DC];congr 1;rw[List.length_take,Nat.min_eq_left (by omega),Nat.zero_add]
theorem O6{l:List At}{now:Int}: ∀(k:Nat),k<=l.length-> ∀j t,St.dD now (l.take k) 0 none=some (j,t)-> ∃hj:j<l.length,j<k∧(l[j]'hj).eV=t
 |0,_,j,t,h=>by simp[St.dD]at h
 |k+1,hk,j,t,h=>by
  rw[DF (show k<l.length by omega)]at h;unfold oD at h;have ih:=O6 (l:=l) (now:=now) k (by omega);split at h
  ·split at h
   ·cases h;exact⟨by omega,by omega,rfl⟩
   ·rename_i j' t' hb;split at h
    ·cases h;exact⟨by omega,by omega,rfl⟩
    ·cases h;obtain⟨h1,h2,h3⟩:=ih _ _ hb;exact⟨h1,by omega,h3⟩
  ·obtain⟨h1,h2,h3⟩:=ih _ _ h;exact⟨h1,by omega,h3⟩
theorem SY(b:Option (Nat×Int)):xY b=jV (b.map (·.1)):=by cases b<;>rfl
theorem Tt(p:Nat)(s:St)(m:MV)(g:List (Ln×Value))(w:World)(hm:MF w p s m g)(hl:s.af.length<=16777216):Calls prog 101 #[.pointer (some ⟨p,0,none⟩)] w fun e w'=>e= .returned (.int .i64 (jV s.due))∧Below w.heap.size w w':=by
 obtain⟨ao,cap,G,c7,HG,fT⟩:=hm.af;have c5:w.cell? ⟨p,5,none⟩=some (.int .i64 s.now):=hm.cell 5;have dc:=hm.lt;have HD:Hid (jV s.due=xY (St.dD s.now (s.af.take s.af.length) 0 none)):=by show _=_;rw[List.take_length,SY];rfl
 clear hm;generalize s.af=l at*;generalize s.now=now at*;generalize s.due=sd at*;go_enter func101,ntmps101;go_wp2;go_loopw [3,11] (fun b i wr=> ∃k:Nat,k<=l.length∧i= .int .i64 k∧(∃bi:Int,b= .int .i64 bi∧ -1<=bi∧bi<=16777216∧Hid (bi=xY (St.dD now (l.take k) 0 none)))∧Below w.heap.size w wr) (fun _ i _=>l.length-(intOf i).toNat)
 case atStart=>exact⟨0,aJ _,rfl,⟨-1,rfl,by omega,by omega,rfl⟩,ah _ _⟩
 case round=>
  obtain⟨k,hk,rfl,⟨bi,rfl,iO,hb1,HB⟩,hB⟩:=hrel;have cg:=hB.size;by_cases ay:k<l.length
  ·obtain⟨g',off,rfl⟩:=fT.out (by omega);obtain⟨c0,c1,c2,c3,c4⟩:=dZ (au HG.out hB) ay;have d5:wr.cell? ⟨p,5,none⟩=some (.int .i64 now):=by rw[hB.cell (p:=⟨p,5,none⟩) dc];exact c5
   have d7:wr.cell? ⟨p,7,none⟩=some (.slice (some ⟨g',off,none⟩) l.length cap):=by rw[hB.cell (p:=⟨p,7,none⟩) dc];exact c7
   have Uc:p<wr.heap.size:=by omega
   have hgr:g'<wr.heap.size:=(dK (au HG.out hB)).1;have iP:=hide (DF (now:=now) ay);obtain⟨w3,rU,iH,BN,cP,Sk⟩:=ud hB cg #[.int .i64 (l[k]'ay).id, .int .i64 (l[k]'ay).n, .int .i64 (l[k]'ay).conn, .int .i64 (l[k]'ay).k7, .int .i64 (l[k]'ay).eV] 170;have b4:w3.cell? ⟨wr.heap.size,4,none⟩=some (.int .i64 (l[k]'ay).eV):=bg cP;have x5:w3.cell? ⟨p,5,none⟩=some (.int .i64 now):=by rw[BN.cell (p:=⟨p,5,none⟩) Uc];exact d5
   have x7:w3.cell? ⟨p,7,none⟩=some (.slice (some ⟨g',off,none⟩) l.length cap):=by rw[BN.cell (p:=⟨p,7,none⟩) Uc];exact d7
   by_cases ht:(l[k]'ay).eV<=now
   ·cases hd:St.dD now (l.take k) 0 none with
    |none=>
     have Pw:bi= -1:=by rw[HB.out,hd];rfl
     have HN:Hid (((k:Nat):Int)=xY (St.dD now (l.take (k+1)) 0 none)):=by show _=_;rw[iP.out,hd];unfold oD;rw[if_pos ht];rfl
     subst Pw;clear HB iP;go_wp2_with fail
     try rw[rU]
     clear rU cP c0 c1 c2 c3 c4 d5 d7
     go_quiet (fail)
     go_wp2;go_roundw
     case rel=>exact⟨k+1,by omega,by go_num,⟨k,rfl,by omega,by omega,HN⟩,below_drewN iH _⟩
     case measure=>simp[intOf];omega
    |some jt=>
     obtain⟨j,t⟩:=jt;obtain⟨hj,hjk,XP⟩:=O6 k hk j t hd;have Pw:bi=(j:Int):=by rw[HB.out,hd];rfl
     have xj:w3.cell? ⟨g',off+j*5+4,none⟩=some (.int .i64 t):=by rw[BN.cell (p:=⟨g',off+j*5+4,none⟩) hgr,<-XP];exact(dZ (au HG.out hB) hj).2.2.2.2
     have hj0:(0:Int)<=((j:Nat):Int):=by omega
     have TU:((j:Nat):Int)<((l.length:Nat):Int):=by omega
     have hjf:decide (((j:Nat):Int)<0)=false:=by simp
     subst Pw;by_cases lK:(l[k]'ay).eV<t
     ·have HN:Hid (((k:Nat):Int)=xY (St.dD now (l.take (k+1)) 0 none)):=by show _=_;rw[iP.out,hd];unfold oD;rw[if_pos ht];dsimp only;rw[if_pos lK];rfl
      clear HB iP;go_wp2_with fail
      try rw[rU]
      clear rU cP c0 c1 c2 c3 c4 d5 d7
      go_quiet (fail)
      go_wp2;go_roundw
      case rel=>exact⟨k+1,by omega,by go_num,⟨k,rfl,by omega,by omega,HN⟩,below_drewN iH _⟩
      case measure=>simp[intOf];omega
     ·have HN:Hid (((j:Nat):Int)=xY (St.dD now (l.take (k+1)) 0 none)):=by show _=_;rw[iP.out,hd];unfold oD;rw[if_pos ht];dsimp only;rw[if_neg lK];rfl
      clear HB iP;have hge:t<=(l[k]'ay).eV:=by omega
      go_wp2_with fail
      try rw[rU]
      clear rU cP c0 c1 c2 c3 c4 d5 d7
      go_quiet (fail)
      go_wp2;go_roundw
      case rel=>exact⟨k+1,by omega,by go_num,⟨j,rfl,by omega,by omega,HN⟩,below_drewN iH _⟩
      case measure=>simp[intOf];omega
   ·have HN:Hid (bi=xY (St.dD now (l.take (k+1)) 0 none)):=by show _=_;rw[iP.out];unfold oD;rw[if_neg ht];exact HB.out
    have htf:decide ((l[k]'ay).eV<=now)=false:=by simpa using ht
    clear HB iP;go_wp2_with fail
    try rw[rU]
    clear rU cP c0 c1 c2 c3 c4 d5 d7
    go_quiet (fail)
    go_wp2;go_roundw
    case rel=>exact⟨k+1,by omega,by go_num,⟨bi,rfl,iO,hb1,HN⟩,below_drewN iH _⟩
    case measure=>simp[intOf];omega
  ·obtain rfl:k=l.length:=by omega
   go_wp2;go_ret;exact⟨xF (HB.out.trans HD.out.symm),hB⟩
variable{g:List (Ln×Value)}{k:Nat}
def qk(g:List (Ln×Value))(k:Nat):Nat:=((g.take k).map (·.1.ids.length)).sum
theorem UZ(hk:k<g.length):qk g (k+1)=qk g k+(g[k]'hk).1.ids.length:=by unfold qk;rw[fp hk,aH,List.sum_append];simp
theorem Q1{s:St}(hr:g.map (·.1)=s.ring):qk g g.length=s.queued:=by unfold qk St.queued;rw[List.take_length,<-hr,aG];rfl
theorem abp:qk g k<=qk g g.length:=by
 unfold qk;rw[List.take_length]
 conv=>rhs;rw[<-List.take_append_drop k g,aH,List.sum_append]
 omega
theorem Fs(s:St):s.queued=(s.ring.flatMap (·.ids)).length:=by unfold St.queued;rw[List.length_flatMap]
theorem Pf{B0 B:Nat}{w wr:World}{t:TypeId}{z0 z1 z2 z3:Value}(hB:Below B0 w wr)(h:wr.heap[B]?=some (.cells #[z0,z1,z2,z3] t (0,0)))(a b c d:Value)(hle:B0<=B:=by omega): ∃W,((((wr.setCell ⟨B,0,none⟩ a).setCell ⟨B,1,none⟩ b).setCell ⟨B,2,none⟩ c).setCell ⟨B,3,none⟩ d)=W∧Below B0 w W∧W.cell? ⟨B,0,none⟩=some a∧W.cell? ⟨B,1,none⟩=some b∧W.cell? ⟨B,2,none⟩=some c∧W.cell? ⟨B,3,none⟩=some d:=by
 have h4:((((wr.setCell ⟨B,0,none⟩ a).setCell ⟨B,1,none⟩ b).setCell ⟨B,2,none⟩ c).setCell ⟨B,3,none⟩ d).heap[B]?=some (.cells #[a,b,c,d] t (0,0)):=
  heap_setCell_same _ B 3 _ t d (heap_setCell_same _ B 2 _ t c (heap_setCell_same _ B 1 _ t b (heap_setCell_same _ B 0 _ t a h)))
 exact⟨_,rfl,(((hB.setCell hle _).setCell hle _).setCell hle _).setCell hle _,bg h4,bg h4,bg h4,bg h4⟩
def pN(s:St)(w:World)(e:Ending)(w':World):Prop:=e= .returned (.agg #[.int .i64 s.now, .int .i64 s.queued, .int .i64 s.af.length, .int .i64 s.wait.length])∧Below w.heap.size w w'
theorem Qr(p:Nat)(s:St)(hv:Inv s)(m:MV)(g:List (Ln×Value))(w:World)(hm:MF w p s m g)(hl:s.reqs.length<=16777216):Calls prog 63 #[.pointer (some ⟨p,0,none⟩)] w (pN s w):=by
 obtain⟨ao,cap,G,_,c8,HG,fT⟩:=vq hm;obtain⟨NN,Lt,G7,c7,_,_⟩:=hm.af;obtain⟨R7,zW,G9,c9,_,_⟩:=hm.RR;have c5:w.cell? ⟨p,5,none⟩=some (.int .i64 s.now):=hm.cell 5;have dc:=hm.lt;have sG:g.length<=16777216:=by have h1:=St.kg hv;rw[<-hm.ring,bf]at h1;omega
 have hq:qk g g.length<=16777216:=by rw[Q1 hm.ring,Fs];exact aw (St.dE hv) hl
 have HQ:=hide (Q1 hm.ring);have HM:=hide hm;have AH:Hid (∀k (hk:k<g.length),∃ao cap,(g[k]'hk).2= .slice ao (g[k]'hk).1.ids.length cap):=fun k hk=>by obtain⟨G,hG⟩:=hm.Wm (g[k]'hk) (aY hk);obtain⟨a,b,e,_⟩:=bO hG;exact⟨a,b,e⟩
 clear hm hv;go_enter func63,ntmps63;go_wp2;go_loopw [3,11] (fun n i wr=> ∃k:Nat,k<=g.length∧i= .int .i64 k∧(∃q:Nat,n= .int .i64 q∧q<=16777216∧Hid (q=qk g k))∧Below (w.heap.size+1) (w.alloc (.cells #[.int .i64 0, .int .i64 0, .int .i64 0, .int .i64 0] 39)) wr) (fun _ i _=>g.length-(intOf i).toNat)
 case atStart=>exact⟨0,aJ _,rfl,⟨0,rfl,by omega,rfl⟩,ah _ _⟩
 case round=>
  obtain⟨k,hk,rfl,⟨q,rfl,ng,HQK⟩,hB⟩:=hrel;have cg:=hB.size;have Kq:Below w.heap.size w wr:=((ah _ _).alloc (ae _) _).trans (hB.mono (by omega));by_cases ay:k<g.length
  ·obtain⟨g',off,rfl⟩:=fT.out (by omega);obtain⟨e0,e1⟩:=j9 (au HG.out Kq) ay;obtain⟨aok,js,Si⟩:=AH.out k ay;rw[Si]at e1;have HQ2:Hid (q+(g[k]'ay).1.ids.length=qk g (k+1)):=by show _=_;rw[UZ ay,HQK.out]
   have qN:q+(g[k]'ay).1.ids.length<=16777216:=by have h1:=HQ2.out;have h2:=abp (g:=g) (k:=k+1);omega
   have Zn:((q:Nat):Int)+(((g[k]'ay).1.ids.length:Nat):Int)<=16777216:=by omega
   clear HQK Si;go_wp2;go_roundw
   case rel=>exact⟨k+1,by omega,by go_num,⟨q+(g[k]'ay).1.ids.length,by go_num,qN,HQ2⟩,hB.alloc (by simpa using cg) _⟩
   case measure=>simp[intOf];omega
  ·obtain rfl:k=g.length:=by omega
   have HQE:Hid (q=s.queued):=hide (HQK.out.trans HQ.out);have d5:wr.cell? ⟨p,5,none⟩=some (.int .i64 s.now):=by rw[Kq.cell (p:=⟨p,5,none⟩) dc];exact c5
   have d7:wr.cell? ⟨p,7,none⟩=some (.slice NN s.af.length Lt):=by rw[Kq.cell (p:=⟨p,7,none⟩) dc];exact c7
   have d9:wr.cell? ⟨p,9,none⟩=some (.slice R7 s.wait.length zW):=by rw[Kq.cell (p:=⟨p,9,none⟩) dc];exact c9
   have cP:wr.heap[w.heap.size]?=some (.cells #[.int .i64 0, .int .i64 0, .int .i64 0, .int .i64 0] 39 (0,0)):=by rw[hB.block _ (by omega)];exact heap_alloc_new _ _
   have r0:wr.cell? ⟨w.heap.size,0,none⟩=some (.int .i64 0):=bg cP;have r1:wr.cell? ⟨w.heap.size,1,none⟩=some (.int .i64 0):=bg cP;have r2:wr.cell? ⟨w.heap.size,2,none⟩=some (.int .i64 0):=bg cP;have r3:wr.cell? ⟨w.heap.size,3,none⟩=some (.int .i64 0):=bg cP;have f0: ∀j,wr.frozen? ⟨w.heap.size,j,none⟩=false:=fun j=>oz cP;have f00:=f0 0;have f01:=f0 1;have f02:=f0 2;have f03:=f0 3;have pL:=hide cP;clear f0 cP HQK;go_wp2_with fail
   go_region
   all_goals
    go_wp2;obtain⟨W,hW,hWB,k0,k1,k2,k3⟩:=Pf Kq pL.out (.int .i64 s.now) (.int .i64 q) (.int .i64 s.af.length) (.int .i64 s.wait.length);rw[hW];clear hW;refine bodyPost_ret (v:= .agg #[.int .i64 s.now, .int .i64 q, .int .i64 s.af.length, .int .i64 s.wait.length]) (by simp[results,results63,go_sem,k0,k1,k2,k3]) rfl ⟨?_, ?_⟩
    ·rw[HQE.out]
    ·exact hWB.drew
