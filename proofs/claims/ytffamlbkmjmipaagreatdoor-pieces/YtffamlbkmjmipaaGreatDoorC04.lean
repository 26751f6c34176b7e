import Derived.Test.YtffamlbkmjmipaaGreatDoorC03
import Derived.OwnWalk
import Derived.Deep.DeepMust
import Derived.Deep.RegionHeld
import Derived.Deep.RegionWith
import Derived.Deep.RegionLaw
import Derived.Shelf.Abstract
import Derived.LaidEqlPtr
set_option maxHeartbeats 8000000
set_option maxRecDepth 100000
namespace Go.Proofs.YtffamlbkmjmipaaGreatDoor
open _root_.Go.Proofs.Tryz
namespace Pj
open Go.RowKit aD Mc Go.Maps
def iA:Kd prog 3 Int where
 keyed:=int_keyed underlying3
 lk c:= .int .i64 c
 val c:= .int .i64 c
 ok c:=(Lit.int .i64 c).wf=true
 key c h:=keyOf_int_mk underlying3 h
 inj c d h:=by cases h;rfl
 lit _:=trivial
def bs(b:Bs):Value:= .string ⟨b.toArray⟩
def qu:Kd prog 9 Bs where
 keyed:=string_keyed underlying9
 lk c:= .string c
 val c:=bs c
 ok c:=c.length<=maxLen
 key c h:=by have:=WideMaps.keyOf_string_mk (P:=prog) underlying9 (s:=⟨c.toArray⟩) (by simpa[ByteArray.size]using h);simpa[bs]using this
 inj c d h:=by cases h;rfl
 lit _:=trivial
def kO(g:Gh)(a:At)(k:Nat):Array Value:= #[.int .i64 a.n,pt (g.rp a.id), .int .i64 a.conn, .int .i64 (g.sr (key a)), .int .i64 a.eJ, .int .i64 a.cS, .int .i64 k]
def eN(g:Gh)(a:At)(k:Nat):aD:=blk (g.ap (key a)) (.cells (kO g a k) 126 (0,0))
def mD(g:Gh)(re:Int)(q:Rq)(av:Value):Array Value:= #[.int .i64 q.id, .int .i64 q.conn,pt (g.tp q.ten),bs q.txt, .int .i64 q.n, .int .i64 (re-q.left), .bool q.hedged,av]
def ji(g:Gh)(re:Int)(q:Rq)(av:Value):aD:=blk (g.rp q.id) (.cells (mD g re q av) 132 (0,0))
def iM(g:Gh)(av:Value)(id:Int)(al:List Int):aD:=rowA 127 1 av al.length (al.map fun n=>pt (g.ap (id,n)))
def dP(g:Gh)(re:Int)(r:Rr):aD:=ex fun av=>aa (ji g re r.q av) (iM g av r.q.id r.al)
def Dg(t:Tr)(wv:Value):Array Value:= #[bs t.nm,wv, .int .i64 t.rn]
def jF(g:Gh)(t:Tr)(wv:Value):aD:=blk (g.tp t.nm) (.cells (Dg t wv) 92 (0,0))
def je(g:Gh)(wv:Value)(wt:List Int):aD:=rowA 124 1 wv wt.length (wt.map fun i=>pt (g.rp i))
def eC(g:Gh)(t:Tr):aD:=ex fun wv=>aa (jF g t wv) (je g wv t.wt)
def byV(b:UInt8):Value:= .int .u8 b.toNat
def Ae(p:Nat)(dr:Bool)(kv:Value):aD:=blk p (.cells #[kv, .bool dr] 107 (0,0))
def Ym(e:TypeId)(v:Value)(n:Nat)(xs:List Value):aD where
 holds w F:=w.ownsRow 0 e 1 v n xs∧ ∀k,F k↔v.ownBlock=some k
 lt h k hk:=by
  obtain⟨h,hF⟩:=h;have hv:=(hF k).1 hk;rcases h.2 with⟨h1,_⟩|⟨g,cap,cur,h1,_,hg,_⟩
  ·rw[h1]at hv;cases hv
  ·rw[h1]at hv;cases hv;exact(bZ.1 hg).1
 keep h hk:=by
  obtain⟨h,hF⟩:=h;refine⟨⟨h.1, ?_⟩,hF⟩;rcases h.2 with h1|⟨g,cap,cur,h1,hb,hg,h2⟩
  ·exact .inl h1
  ·exact .inr ⟨g,cap,cur,h1,hb,(hk g ((hF g).2 (by rw[h1];rfl))).trans hg,h2⟩
def Ej(kv:Value)(b:Bs):aD:=Ym 5 kv b.length (b.map byV)
def gi(k:Kn):aD:=ex fun kv=>aa (Ae k.p k.dr kv) (Ej kv k.kept)
def dF(g:Gh)(rv:Value)(ring:List Bs):aD:=rowA 89 1 rv ring.length (ring.map fun t=>pt (g.tp t))
def gm(pv:Value)(pull:List Int):aD:=rowA 3 1 pv pull.length (pull.map fun c=> .int .i64 c)
def dm(g:Gh)(lv:Value)(hp:List At):aD:=rowA 127 1 lv hp.length (hp.map fun a=>pt (g.ap (key a)))
structure Dv where
 cm:Nat
 rm:Nat
 tm:Nat
 rv:Value
 pv:Value
 lv:Value
def uI(j:Js)(v:Dv):Array Value:= #[.int .i64 j.c.le, .int .i64 j.c.re, .int .i64 j.c.ca, .int .i64 j.c.bo, .int .i64 j.c.he, .int .i64 j.now, .map (some v.cm), .map (some v.rm), .map (some v.tm),v.rv,v.pv,v.lv, .int .i64 j.begun]
def dB(x:Nat)(j:Js)(v:Dv):aD:=blk x (.cells (uI j v) 88 (0,0))
def iu(b:Nat)(l:List Kn):aD:=mapA iA b (l.map fun k=>(k.n,k.p))
def gJ(g:Gh)(b:Nat)(l:List Rr):aD:=mapA iA b (l.map fun r=>(r.q.id,g.rp r.q.id))
def fW(g:Gh)(b:Nat)(l:List Tr):aD:=mapA qu b (l.map fun t=>(t.nm,g.tp t.nm))
def hpA(g:Gh)(hp:List At):aD:=all (fun x:At×Nat=>eN g x.1 x.2) hp.zipIdx
def aS(x:Nat)(g:Gh)(j:Js)(v:Dv):aD:=
 aa (dB x j v) (aa (iu v.cm j.br) (aa (gJ g v.rm j.reqs) (aa (fW g v.tm j.aI) (aa (all gi j.br) (aa (all (dP g j.c.re) j.reqs) (aa (all (eC g) j.aI) (aa (dF g v.rv j.ring) (aa (gm v.pv j.pull) (aa (dm g v.lv j.hp) (hpA g j.hp))))))))))
def jA(x:Nat)(g:Gh)(j:Js):aD:=ex fun v=>aS x g j v
end Pj
namespace Pj
open Go.RowKit aD Mc
variable{name:String}{f:FuncId}
theorem xS:(prog.info? 184).map (fun i=>(i.methods.find? (·.name== "Len")).map fun m=>(m.path,m.func))=some (some (#[],some (284,false))):=by kernel_rfl
theorem uf:(prog.info? 184).map (fun i=>(i.methods.find? (·.name== "Less")).map fun m=>(m.path,m.func))=some (some (#[],some (285,false))):=by kernel_rfl
theorem ug:(prog.info? 184).map (fun i=>(i.methods.find? (·.name== "Swap")).map fun m=>(m.path,m.func))=some (some (#[],some (286,false))):=by kernel_rfl
theorem Ku:(prog.info? 184).map (fun i=>(i.methods.find? (·.name== "Push")).map fun m=>(m.path,m.func))=some (some (#[],some (288,true))):=by kernel_rfl
theorem NI:(prog.info? 184).map (fun i=>(i.methods.find? (·.name== "Pop")).map fun m=>(m.path,m.func))=some (some (#[],some (287,true))):=by kernel_rfl
theorem uh{b:Bool}(h:(prog.info? 184).map (fun i=>(i.methods.find? (·.name==name)).map fun m=>(m.path,m.func))=some (some (#[],some (f,b)))): ∃i m,prog.info? 184=some i∧i.methods.find? (·.name==name)=some m∧m.path= #[]∧m.func=some (f,b):=by
 cases hi:prog.info? 184 with
 |none=>rw[hi]at h;cases h
 |some i=>
  rw[hi]at h;cases hm:i.methods.find? (·.name==name)with
  |none=>simp[hm]at h
  |some m=>simp[hm]at h;exact⟨i,m,rfl,hm,h.1,h.2⟩
theorem OT(w:World)(t:TypeId)(a:Addr)(s m:String):(Builtin.ssaWrapNilChk_ #[t] t #[.pointer (some a),strVal s,strVal m]).run prog w= .ok (.pointer (some a)) w:=rfl
theorem fT(h:(prog.info? 184).map (fun i=>(i.methods.find? (·.name==name)).map fun m=>(m.path,m.func))=some (some (#[],some (f,false))))(w:World)(x:Nat)(lv:Value)(hc:w.cell? ⟨x,11,none⟩=some lv):(method 429 184 (.pointer (some ⟨x,11,none⟩)) name).run prog w= .ok (f,lv) w:=by obtain⟨i,m,h1,h2,h3,h4⟩:=uh h;unfold method;simp[typeInfo,h1,h2,h3,h4,follow,receiverAt,Place.get,OT,asAddr,go_sem,hc]
theorem AE(h:(prog.info? 184).map (fun i=>(i.methods.find? (·.name==name)).map fun m=>(m.path,m.func))=some (some (#[],some (f,true))))(w:World)(x:Nat):(method 429 184 (.pointer (some ⟨x,11,none⟩)) name).run prog w= .ok (f, .pointer (some ⟨x,11,none⟩)) w:=by obtain⟨i,m,h1,h2,h3,h4⟩:=uh h;unfold method;simp[typeInfo,h1,h2,h3,h4,follow,receiverAt,Place.get,go_sem]
variable{w w':World}{F:Ft}
section
variable{α κ:Type} [DecidableEq κ]{A:α->aD}
theorem Mp{k:α->κ}{c:κ}{f:α->α}{l:List α}:all A (upd k c f (l.filter fun y=>decide (k y≠c)))=all A (l.filter fun y=>decide (k y≠c)):=by
 have:upd k c f (l.filter fun y=>decide (k y≠c))=l.filter fun y=>decide (k y≠c):=by
  unfold upd;refine(bu fun x hx=> ?_).trans (List.map_id _);have:k x≠c:=by simpa using(aG.1 hx).2
  rw[if_neg this];rfl
 rw[this]
theorem AQ{k:α->κ}{l:List α}(hn:(l.map k).Nodup){x:α}(hx:x∈l):l.Perm (x::l.filter fun y=>decide (k y≠k x)):=by
 induction l with
 |nil=>cases hx
 |cons y l ih=>
  rw[List.map_cons,List.nodup_cons]at hn;rcases List.mem_cons.1 hx with e|e
  ·subst e;rw[List.filter_cons_of_neg (by simp)];have:l.filter (fun y=>decide (k y≠k x))=l:=List.filter_eq_self.2 fun z hz=>by
    have:k z≠k x:=fun e=>hn.1 (ax.2 ⟨z,hz,e⟩);simpa using this
   rw[this]
  ·have cz:k y≠k x:=fun e'=>hn.1 (ax.2 ⟨x,e,e'.symm⟩);rw[List.filter_cons_of_pos (by simpa using cz)];exact((ih hn.2 e).cons y).trans (List.Perm.swap _ _ _)
theorem jm{k:α->κ}{l:List α}(hn:(l.map k).Nodup){x:α}(hx:x∈l):all A l=aa (A x) (all A (l.filter fun y=>decide (k y≠k x))):=yV A (AQ hn hx)
theorem Dy{k:α->κ}{l:List α}(hn:(l.map k).Nodup){x:α}(hx:x∈l)(f:α->α):all A (upd k (k x) f l)=aa (A (f x)) (all A (l.filter fun y=>decide (k y≠k x))):=by have hp:=(AQ hn hx).map (fun y=>if k y=k x then f y else y);rw[List.map_cons,if_pos rfl]at hp;have:=yV A hp;rw[show upd k (k x) f l=l.map (fun y=>if k y=k x then f y else y)from rfl,this];show aa (A (f x)) (all A (upd k (k x) f (l.filter fun y=>decide (k y≠k x))))=_;rw[Mp]
end
section
variable{α:Type}{A:α->aD}
theorem rW: ∀{l:List α} {i:Nat},i<l.length-> ∀u,all A (l.set i u)=aa (A u) (all A (l.eraseIdx i))
 | [],i,h,_=>by simp at h
 |x::l,0,_,u=>rfl
 |x::l,i+1,h,u=>by show aa (A x) (all A (l.set i u))=aa (A u) (aa (A x) (all A (l.eraseIdx i)));rw[rW (by simpa using h),cA]
theorem wX{l:List α}{i:Nat}(h:i<l.length):all A l=aa (A l[i]) (all A (l.eraseIdx i)):=by have:=rW (A:=A) h l[i];rwa[List.set_getElem_self]at this
theorem wY: ∀{l:List α} {i j:Nat},i<j->j<l.length-> ∃R:aD,∀u v,all A ((l.set i u).set j v)=aa (A u) (aa (A v) R)
 | [],_,_,_,h=>by simp at h
 |x::l,0,j+1,_,h=>⟨all A (l.eraseIdx j),fun u v=>by show aa (A u) (all A (l.set j v))=_;rw[rW (by simpa using h)]⟩
 |x::l,i+1,j+1,h1,h2=>by
  obtain⟨R,hR⟩:=wY (l:=l) (i:=i) (j:=j) (by omega) (by simpa using h2);refine⟨aa (A x) R,fun u v=> ?_⟩;show aa (A x) (all A ((l.set i u).set j v))=_;rw[hR u v]
  ac_rfl
theorem yU{l:List α}{i j:Nat}(hi:i<l.length)(hj:j<l.length)(cz:i≠j): ∃R:aD,all A l=aa (A l[i]) (aa (A l[j]) R)∧ ∀u v,all A ((l.set i u).set j v)=aa (A u) (aa (A v) R):=by
 rcases Nat.lt_or_gt_of_ne cz with h|h
 ·obtain⟨R,hR⟩:=wY (A:=A) h hj;refine⟨R, ?_,hR⟩;have:=hR l[i] l[j];simpa using this
 ·obtain⟨R,hR⟩:=wY (A:=A) h hi;refine⟨R, ?_,fun u v=> ?_⟩
  ·have:=hR l[j] l[i];simp at this;rw[this,cA]
  ·rw[List.set_comm _ _ cz,hR v u,cA]
end
theorem aH{A' B:aD}{G H:Ft}(hb:B.holds w H)(h:Goes A' w G w')(d: ∀k,G k-> ¬H k)(e: ∀k,F k↔G k∨H k):Goes (aa A' B) w F w':=by
 obtain⟨G',ha',o,n⟩:=h;have aQ:=B.lt hb;refine⟨fun k=>G' k∨H k,⟨G',H,ha',B.keep hb (fun k hk=>o.block k (aQ k hk) (fun hg=>d k hg hk)),fun k hk hh=> ?_,fun k=>Iff.rfl⟩,o.mono (fun k _ hk=>(e k).2 (.inl hk)),fun k hk=> ?_⟩
 ·rcases n k hk with h|h
  ·exact d k h hh
  ·have:=aQ k hh;omega
 ·rcases hk with hk|hk
  ·rcases n k hk with h|h
   ·exact .inl ((e k).2 (.inl h))
   ·exact .inr h
  ·exact .inl ((e k).2 (.inr hk))
theorem gB{P:Program}{f:FuncId}{args:Array Value}{A A' B:aD}{v:Ending}(h:(aa A B).holds w F)(c: ∀G,A.holds w G->Calls P f args w fun e w'=>e=v∧Goes A' w G w'):Calls P f args w fun e w'=>e=v∧Goes (aa A' B) w F w':=by obtain⟨G,H,ha,hb,d,e⟩:=h;refine(c G ha).mono ?_;rintro e' w'⟨h1,h2⟩;exact⟨h1,aH hb h2 d e⟩
theorem cX{A':aD}{q:Nat}(h:Goes A' (w.drewN q) F w'):Goes A' w F w':=by obtain⟨F',h1,o,n⟩:=h;exact⟨F',h1,⟨o.os,o.tape,o.output,o.size,o.block⟩,n⟩
theorem bI{A:aD}(h:A.holds w F)(q:Nat):A.holds (w.drewN q) F:=A.keep h (fun _ _=>rfl)
variable{g:Gh}{a b:At}{w:World}{gb off cap:Nat}{hp:List At}
theorem s6(w:World)(a b:Nat):(w.drewN a).drewN b=w.drewN (a+b):=by simp[World.drewN,Nat.add_assoc]
def L3(g:Gh)(a b:At):Bool:=if a.cS=b.cS then decide (g.sr (key a)<g.sr (key b))else decide (a.cS<b.cS)
theorem tZ(h:L3 g a b=true):eT g a b:=by
 unfold L3 at h;unfold eT;split at h
 ·have:g.sr (key a)<g.sr (key b):=by simpa using h
  omega
 ·have:a.cS<b.cS:=by simpa using h
  omega
theorem oX(h:L3 g a b=false):eT g b a:=by
 unfold L3 at h;unfold eT;split at h
 ·have: ¬g.sr (key a)<g.sr (key b):=by simpa using h
  omega
 ·have: ¬a.cS<b.cS:=by simpa using h
  omega
theorem ae(w:World)(n:Nat)(a:Addr)(v:Value):(w.drewN n).setCell a v=(w.setCell a v).drewN n:=rfl
theorem ah(w:World)(n:Nat)(o:Obj):(w.drewN n).alloc o=(w.alloc o).drewN n:=rfl
structure LF(w:World)(g:Gh)(gb off cap:Nat)(hp:List At):Prop where
 cell: ∀i (h:i<hp.length),w.cell? ⟨gb,off+i,none⟩=some (.pointer (some ⟨g.ap (key hp[i]),0,none⟩))
 Tc: ∀i,w.frozen? ⟨gb,i,none⟩=false
 bB: ∀i (h:i<hp.length),w.heap[g.ap (key hp[i])]?=some (.cells (kO g hp[i] i) 126 (0,0))
theorem LF.at'(h:LF w g gb off cap hp)(i:Nat)(hi:i<hp.length)(j:Nat):w.cell? ⟨g.ap (key hp[i]),j,none⟩=(kO g hp[i] i)[j]?:=by simp only[World.cell?,h.bB i hi];rfl
theorem LF.Y5(h:LF w g gb off cap hp)(i:Nat)(hi:i<hp.length)(j:Nat):w.frozen? ⟨g.ap (key hp[i]),j,none⟩=false:=by simp only[World.frozen?,h.bB i hi];simp
theorem Kg(g:Gh)(gb off cap:Nat)(hp:List At)(w:World)(h:LF w g gb off cap hp)(i j:Nat)(hi:i<hp.length)(hj:j<hp.length)(_hl:hp.length<=16777216):Calls prog 285 #[.slice (some ⟨gb,off,none⟩) hp.length cap, .int .i64 i, .int .i64 j] w fun e w'=>e= .returned (.bool (L3 g hp[i] hp[j]))∧ ∃q,w'=w.drewN q:=by
 have ci:=h.cell i hi;have cj:=h.cell j hj;have ti:w.cell? ⟨g.ap (key hp[i]),5,none⟩=some (.int .i64 hp[i].cS):=h.at' i hi 5;have tj:w.cell? ⟨g.ap (key hp[j]),5,none⟩=some (.int .i64 hp[j].cS):=h.at' j hj 5;have si:w.cell? ⟨g.ap (key hp[i]),3,none⟩=some (.int .i64 (g.sr (key hp[i]))):=h.at' i hi 3;have sj:w.cell? ⟨g.ap (key hp[j]),3,none⟩=some (.int .i64 (g.sr (key hp[j]))):=h.at' j hj 3;unfold L3;clear h;generalize hp[i].cS=Yr at*;generalize hp[j].cS=Ys at*;generalize g.sr (key hp[i])=sri at*;generalize g.sr (key hp[j])=srj at*;generalize g.ap (key hp[i])=ai at*;generalize g.ap (key hp[j])=aj at*;generalize hp.length=n at*;cases hq:(Yr==Ys)
 ·have e: ¬Yr=Ys:=by simpa using hq
  rw[if_neg e];go_enter func285,ntmps285;go_wp2
  go_quiet (fail)
  go_wp2
  go_quiet (fail)
  go_wp2;go_ret;exact⟨rfl,_,s6 _ _ _⟩
 ·have e:Yr=Ys:=by simpa using hq
  rw[if_pos e];go_enter func285,ntmps285;go_wp2
  go_quiet (fail)
  go_wp2
  go_quiet (fail)
  go_wp2;go_ret;exact⟨rfl,_,s6 _ _ _⟩
end Pj
namespace Pj
open Go.RowKit aD Mc
attribute [local go_sem] ae
variable{g:Gh}{gb off cap i j:Nat}{hp:List At}{w:World}{F:Ft}
def vu(g:Gh)(lv:Value)(hp:List At):aD:=aa (dm g lv hp) (hpA g hp)
theorem PA(h:(vu g (.slice (some ⟨gb,off,none⟩) hp.length cap) hp).holds w F):LF w g gb off cap hp:=by
 obtain⟨G,H,ha,hb,d,e⟩:=h;refine⟨fun i hi=> ?_,fun i=>eu ha i,fun i hi=> ?_⟩
 ·rw[aW ha i (by omega),List.getElem?_map,aV hi];rfl
 ·have hz:i<hp.zipIdx.length:=by simpa using hi
  unfold hpA at hb;rw[wX hz]at hb;have:=(bQ hb).1;simpa using this
theorem ND{lv:Value}(h:(vu g lv hp).holds w F): ∃ao cap,lv= .slice ao hp.length cap∧hp.length<=cap∧cap<=maxLen∧(0<hp.length-> ∃gb off,ao=some ⟨gb,off,none⟩):=by obtain⟨G,H,ha,_⟩:=h;obtain⟨ao,cap,h1,h2,h3,h4,_⟩:=bS ha;exact⟨ao,cap,h1,h2,h3,fun hn=>by obtain⟨g,off,e,_⟩:=h4 hn;exact⟨g,off,e⟩⟩
theorem LJ{l:List At}(hi:i<l.length)(hj:j<l.length):(Hp.swap l i j).zipIdx=(l.zipIdx.set i (l[j],i)).set j (l[i],j):=by
 rw[Hp.swap_eq (aV hi) (aV hj)];apply List.ext_getElem?;intro k;rw[List.getElem?_zipIdx,List.getElem?_set,List.getElem?_set,List.getElem?_set,List.getElem?_set,List.getElem?_zipIdx];simp only[List.length_set,List.length_zipIdx,Nat.zero_add];by_cases e1:j=k
 ·subst e1;simp[hj]
 ·by_cases e2:i=k
  ·subst e2;simp[e1,hi]
  ·simp[e1,e2]
theorem GN(h:(vu g (.slice (some ⟨gb,off,none⟩) hp.length cap) hp).holds w F)(hi:i<hp.length)(hj:j<hp.length)(cz:i≠j)(q q':Nat):Goes (vu g (.slice (some ⟨gb,off,none⟩) hp.length cap) (Hp.swap hp i j)) w F ((((((w.setCell ⟨gb,off+i,none⟩ (.pointer (some ⟨g.ap (key hp[j]),0,none⟩))).setCell ⟨gb,off+j,none⟩ (.pointer (some ⟨g.ap (key hp[i]),0,none⟩))).drewN q).setCell ⟨g.ap (key hp[j]),6,none⟩ (.int .i64 i)).setCell ⟨g.ap (key hp[i]),6,none⟩ (.int .i64 j)).drewN q'):=by
 have hz: ∀{k},k<hp.length->k<hp.zipIdx.length:=fun h=>by simpa using h
 obtain⟨R,WT,hR2⟩:=yU (A:=fun x:At×Nat=>eN g x.1 x.2) (hz hi) (hz hj) cz;have e1:vu g (.slice (some ⟨gb,off,none⟩) hp.length cap) hp=aa (dm g (.slice (some ⟨gb,off,none⟩) hp.length cap) hp) (aa (eN g hp[i] i) (aa (eN g hp[j] j) R)):=by unfold vu hpA;rw[WT];simp
 have e2:vu g (.slice (some ⟨gb,off,none⟩) hp.length cap) (Hp.swap hp i j)=aa (dm g (.slice (some ⟨gb,off,none⟩) hp.length cap) (Hp.swap hp i j)) (aa (eN g hp[j] i) (aa (eN g hp[i] j) R)):=by unfold vu hpA;rw[LJ hi hj,hR2]
 rw[e1]at h;rw[e2];have s1:Goes (aa (dm g (.slice (some ⟨gb,off,none⟩) hp.length cap) (Hp.swap hp i j)) (aa (eN g hp[i] i) (aa (eN g hp[j] j) R))) w F
   ((w.setCell ⟨gb,off+i,none⟩ (.pointer (some ⟨g.ap (key hp[j]),0,none⟩))).setCell ⟨gb,off+j,none⟩ (.pointer (some ⟨g.ap (key hp[i]),0,none⟩))):=by
  refine Goes.frame h fun G hG _=> ?_;have r1:=dc hG i (.pointer (some ⟨g.ap (key hp[j]),0,none⟩)) (by omega);refine(r1.trans fun G' Jl=>dc Jl j (.pointer (some ⟨g.ap (key hp[i]),0,none⟩)) (by omega)).eq ?_;unfold dm;rw[Hp.rB,Hp.swap_eq (aV hi) (aV hj),List.map_set,List.map_set];rfl
 have s2:=s1.drewN q;have s3:=(s2.eq (show _=aa (blk (g.ap (key hp[j])) (.cells (kO g hp[j] j) 126 (0,0))) (aa (dm g (.slice (some ⟨gb,off,none⟩) hp.length cap) (Hp.swap hp i j)) (aa (eN g hp[i] i) R))by unfold eN;ac_rfl)).store 6 (.int .i64 i);have s4:=(s3.eq (show _=aa (blk (g.ap (key hp[i])) (.cells (kO g hp[i] i) 126 (0,0))) (aa (dm g (.slice (some ⟨gb,off,none⟩) hp.length cap) (Hp.swap hp i j)) (aa (eN g hp[j] i) R))by
  show aa (eN g hp[j] i) (aa (dm g (.slice (some ⟨gb,off,none⟩) hp.length cap) (Hp.swap hp i j)) (aa (eN g hp[i] i) R))=aa (eN g hp[i] i) _
  ac_rfl)).store 6 (.int .i64 j)
 refine(s4.drewN q').eq ?_;show aa (eN g hp[i] j) (aa (dm g (.slice (some ⟨gb,off,none⟩) hp.length cap) (Hp.swap hp i j)) (aa (eN g hp[j] i) R))=_
 ac_rfl
theorem Kl(h:(vu g (.slice (some ⟨gb,off,none⟩) hp.length cap) hp).holds w F)(hi:i<hp.length)(hj:j<hp.length)(cz:i≠j):gb≠g.ap (key hp[i])∧gb≠g.ap (key hp[j])∧g.ap (key hp[i])≠g.ap (key hp[j]):=by
 have hz: ∀{k},k<hp.length->k<hp.zipIdx.length:=fun h=>by simpa using h
 obtain⟨R,WT,_⟩:=yU (A:=fun x:At×Nat=>eN g x.1 x.2) (hz hi) (hz hj) cz;obtain⟨G,H,ha,hb,d,e⟩:=h;have hG:=(jC ha).2;unfold hpA at hb;rw[WT]at hb;simp only[List.getElem_zipIdx,Nat.zero_add]at hb;have h1:=bQ hb;have h2:=Io hb;rw[cA]at hb;have h3:=bQ hb;exact⟨fun e=>d gb hG (e▸h1.2),fun e=>d gb hG (e▸h3.2),h2⟩
theorem swap_any(g:Gh)(gb off cap:Nat)(hp:List At)(w:World)(F:Ft)(h:(vu g (.slice (some ⟨gb,off,none⟩) hp.length cap) hp).holds w F)(i j:Nat)(hi:i<hp.length)(hj:j<hp.length)(cz:i≠j)(_hl:hp.length<=16777216):Calls prog 286 #[.slice (some ⟨gb,off,none⟩) hp.length cap, .int .i64 i, .int .i64 j] w fun e w'=>e= .returned (.tuple #[])∧Goes (vu g (.slice (some ⟨gb,off,none⟩) hp.length cap) (Hp.swap hp i j)) w F w':=by
 have HF:=PA h;have ci:=HF.cell i hi;have cj:=HF.cell j hj;have fi:=HF.Tc (off+i);have fj:=HF.Tc (off+j);have pi:w.cell? ⟨g.ap (key hp[i]),6,none⟩=some (.int .i64 i):=HF.at' i hi 6;have pj:w.cell? ⟨g.ap (key hp[j]),6,none⟩=some (.int .i64 j):=HF.at' j hj 6;have Zq:=HF.Y5 i hi 6;have Zr:=HF.Y5 j hj 6;obtain⟨n1,n2,n3⟩:=Kl h hi hj cz;have HG:Hid (∀q q',Goes (vu g (.slice (some ⟨gb,off,none⟩) hp.length cap) (Hp.swap hp i j)) w F
   ((((((w.setCell ⟨gb,off+i,none⟩ (.pointer (some ⟨g.ap (key hp[j]),0,none⟩))).setCell ⟨gb,off+j,none⟩ (.pointer (some ⟨g.ap (key hp[i]),0,none⟩))).drewN q).setCell ⟨g.ap (key hp[j]),6,none⟩ (.int .i64 i)).setCell ⟨g.ap (key hp[i]),6,none⟩ (.int .i64 j)).drewN q')):=fun q q'=>GN h hi hj cz q q'
 clear HF h;generalize g.ap (key hp[i])=ai at*;generalize g.ap (key hp[j])=aj at*;generalize hp.length=n at*;have Uf:(⟨gb,off+i,none⟩:Addr)≠⟨gb,off+j,none⟩:=fun e=>cz (by injection e with _ e;omega);obtain⟨W1,qV⟩: ∃W1,W1=((w.setCell ⟨gb,off+i,none⟩ (.pointer (some ⟨aj,0,none⟩))).setCell ⟨gb,off+j,none⟩ (.pointer (some ⟨ai,0,none⟩))).drew:=⟨_,rfl⟩;have k1:W1.cell? ⟨gb,off+i,none⟩=some (.pointer (some ⟨aj,0,none⟩)):=by rw[qV];show(World.setCell _ _ _).cell? _=_;rw[World.cell?_setCell_other _ _ _ _ (Ne.symm Uf)];exact World.cell?_setCell_same _ _ _ ci
 have k2:W1.cell? ⟨gb,off+j,none⟩=some (.pointer (some ⟨ai,0,none⟩)):=by rw[qV];show(World.setCell _ _ _).cell? _=_;exact World.cell?_setCell_same _ _ _ (by rw[World.cell?_setCell_other _ _ _ _ Uf];exact cj)
 have k3:W1.cell? ⟨ai,6,none⟩=some (.int .i64 i):=by rw[qV];show(World.setCell _ _ _).cell? _=_;rw[World.cell?_setCell_far _ _ _ _ n1,World.cell?_setCell_far _ _ _ _ n1];exact pi
 have k4:W1.cell? ⟨aj,6,none⟩=some (.int .i64 j):=by rw[qV];show(World.setCell _ _ _).cell? _=_;rw[World.cell?_setCell_far _ _ _ _ n2,World.cell?_setCell_far _ _ _ _ n2];exact pj
 have l1:W1.frozen? ⟨gb,off+i,none⟩=false:=by rw[qV];show(World.setCell _ _ _).frozen? _=_;simpa using fi
 have l3:W1.frozen? ⟨ai,6,none⟩=false:=by rw[qV];show(World.setCell _ _ _).frozen? _=_;simpa using Zq
 have l4:W1.frozen? ⟨aj,6,none⟩=false:=by rw[qV];show(World.setCell _ _ _).frozen? _=_;simpa using Zr
 have m1:(W1.setCell ⟨aj,6,none⟩ (.int .i64 i)).cell? ⟨gb,off+j,none⟩=some (.pointer (some ⟨ai,0,none⟩)):=by rw[World.cell?_setCell_far _ _ _ _ (Ne.symm n2)];exact k2
 have m2:(W1.setCell ⟨aj,6,none⟩ (.int .i64 i)).cell? ⟨ai,6,none⟩=some (.int .i64 i):=by rw[World.cell?_setCell_far _ _ _ _ (Ne.symm n3)];exact k3
 have HW:Hid (W1=((w.setCell ⟨gb,off+i,none⟩ (.pointer (some ⟨aj,0,none⟩))).setCell ⟨gb,off+j,none⟩ (.pointer (some ⟨ai,0,none⟩))).drew):=qV;go_enter func286,ntmps286;go_wp2
 go_region
 rw[<-qV];clear qV pi pj ci cj fi fj Zq Zr;go_wp2
 go_region
 all_goals (try go_wp2)
 all_goals go_end0
 all_goals refine⟨rfl, ?_⟩
 all_goals (rw[HW.out];exact HG.out 1 1)
variable{g:Gh}{hp aX:List At}{n x gb off cap n0:Nat}{cs:Array Value}{lv:Value}{w:World}{F:Ft}
def dY(x:Nat)(cs:Array Value)(g:Gh)(lv:Value)(hp:List At):aD:=aa (blk x (.cells cs 88 (0,0))) (vu g lv hp)
def sf(x:Nat):Value:= .iface 184 (.pointer (some ⟨x,11,none⟩))
structure Way(g:Gh)(hp:List At)(n:Nat)(aX:List At):Prop where
 perm:aX.Perm hp
 rest: ∀k,n<=k->aX[k]?=hp[k]?
theorem Way.refl(g:Gh)(hp:List At)(n:Nat):Way g hp n hp:=⟨List.Perm.refl _,fun _ _=>rfl⟩
theorem Way.len(h:Way g hp n aX):aX.length=hp.length:=h.perm.length_eq
theorem Way.swap(h:Way g hp n aX){i j:Nat}(hi:i<n)(hj:j<n)(hn:n<=hp.length):Way g hp n (Hp.swap aX i j):=by have hl:=h.len;refine⟨(Hp.swap_perm (by omega) (by omega)).trans h.perm,fun k hk=> ?_⟩;rw[Hp.pC (by omega) (by omega),if_neg (by omega),if_neg (by omega)];exact h.rest k hk
theorem Way.trans{hE:List At}(h:Way g hp n aX)(h':Way g aX n hE):Way g hp n hE:=⟨h'.perm.trans h.perm,fun k hk=>(h'.rest k hk).trans (h.rest k hk)⟩
theorem gN(h:(dY x cs g lv hp).holds w F)(hc:cs[11]?=some lv):w.cell? ⟨x,11,none⟩=some lv:=by have:=(bQ h).1;simp only[World.cell?,this];exact hc
theorem PC(h:(dY x cs g lv hp).holds w F): ∃G,(vu g lv hp).holds w G:=by obtain⟨G,H,ha,hb,_⟩:=h;exact⟨H,hb⟩
theorem En(hn:hp.length=n0)(h:(dY x cs g (.slice (some ⟨gb,off,none⟩) n0 cap) hp).holds w F)(i j:Nat)(hi:i<hp.length)(hj:j<hp.length)(hl:hp.length<=16777216)(q:Nat):Calls prog 285 #[.slice (some ⟨gb,off,none⟩) n0 cap, .int .i64 i, .int .i64 j] (w.drewN q) fun e w'=>e= .returned (.bool (L3 g hp[i] hp[j]))∧ ∃q,w'=w.drewN q:=by subst hn;obtain⟨G,hG⟩:=PC h;refine(Kg g gb off cap hp _ (PA (bI hG q)) i j hi hj hl).mono ?_;rintro e w'⟨rfl,q',rfl⟩;exact⟨rfl,_,s6 _ _ _⟩
theorem pD(hn:hp.length=n0)(h:(dY x cs g (.slice (some ⟨gb,off,none⟩) n0 cap) hp).holds w F)(i j:Nat)(hi:i<hp.length)(hj:j<hp.length)(cz:i≠j)(hl:hp.length<=16777216)(q:Nat):Calls prog 286 #[.slice (some ⟨gb,off,none⟩) n0 cap, .int .i64 i, .int .i64 j] (w.drewN q) fun e w'=>e= .returned (.tuple #[])∧Goes (dY x cs g (.slice (some ⟨gb,off,none⟩) n0 cap) (Hp.swap hp i j)) w F w':=by subst hn;unfold dY at h⊢;rw[aZ]at h⊢;exact(gB (bI h q) fun G hG=>swap_any g gb off cap hp _ G hG i j hi hj cz hl).mono (fun e w' ⟨h1,h2⟩=>⟨h1,cX h2⟩)
theorem N4{k:Nat}(h:0<k):((k:Int)-1).tdiv 2=((Hp.par k:Nat):Int):=by
 have:((k:Int)-1)=((k-1:Nat):Int):=by omega
 rw[this];rfl
theorem Dh(x:Nat)(cs:Array Value)(g:Gh)(gb off cap n0:Nat)(hp:List At)(N j:Nat)(w:World)(F:Ft)(JH:hp.length=n0)(hc:cs[11]?=some (.slice (some ⟨gb,off,none⟩) n0 cap))(h:(dY x cs g (.slice (some ⟨gb,off,none⟩) n0 cap) hp).holds w F)(hN:N<=hp.length)(hj:j<N)(hu:Hp.H7 (eT g) hp N j)(hl:hp.length<=16777216):Calls prog 160 #[sf x, .int .i64 j] w fun e w'=>e= .returned (.tuple #[])∧ ∃aX,Way g hp N aX∧Hp.Heap (eT g) aX N∧Goes (dY x cs g (.slice (some ⟨gb,off,none⟩) n0 cap) aX) w F w':=by
 unfold sf;have Ws:=enters_of func285 (by kernel_rfl) rfl;have S4:=enters_of func286 (by kernel_rfl) rfl;go_enter func160,ntmps160;go_wp2;go_loopw [1] (fun jv wr=> ∃k:Nat,jv= .int .i64 k∧k<N∧ ∃aX,Hid (Way g hp N aX∧Hp.H7 (eT g) aX N k∧Goes (dY x cs g (.slice (some ⟨gb,off,none⟩) n0 cap) aX) w F wr)) (fun jv _=>(intOf jv).toNat)
 case atStart=>exact⟨j,rfl,hj,hp,⟨Way.refl g hp N,hu,Goes.refl h⟩⟩
 case round=>
  obtain⟨k,rfl,hk,aX,H⟩:=hrel;obtain⟨jY,vp,F1,bU,o1,n1⟩:=H.out;have hlen:=jY.len;have HD:Hid (∀(hh:Hp.Heap (eT g) aX N) (q:Nat),∃aX,Way g hp N aX∧Hp.Heap (eT g) aX N∧Goes (dY x cs g (.slice (some ⟨gb,off,none⟩) n0 cap) aX) w F (wr.drewN q)):=fun hh q=>⟨aX,jY,hh,(H.out.2.2).drewN q⟩;rcases Nat.eq_zero_or_pos k with hz|JO
  ·subst hz;have HE:=HD.out (vp.heap (fun h=>absurd h (by omega))) 0;have HE':Hid (∃aX,Way g hp N aX∧Hp.Heap (eT g) aX N∧Goes (dY x cs g (.slice (some ⟨gb,off,none⟩) n0 cap) aX) w F wr):=HE;clear HE HD bU vp jY o1 n1 H h hu;go_wp2;go_end0;exact⟨rfl,HE'.out⟩
  ·obtain⟨p,oJ⟩: ∃p,p=Hp.par k:=⟨_,rfl⟩;have LU:p<k:=by rw[oJ];exact Hp.dU JO
   have hdiv:((k:Int)-1).tdiv 2=(p:Int):=by rw[oJ];exact N4 JO
   have hmL:=fT uf wr x _ (gN bU hc);have Vt: ∀q,_:=fun q=>fT ug (wr.drewN q) x _ (gN (bI bU q) hc);have aaw:(p==k)=false:=by simpa using(by omega:p≠k)
   have HL:=En (by omega:aX.length=n0) bU k p (by omega) (by omega) (by omega) 0;have V4:Hid (p=Hp.par k):=oJ;have TN:aX[k]?=some (aX[k]'(by omega)):=aV (by omega);have Vl:aX[p]?=some (aX[p]'(by omega)):=aV (by omega);cases hq:L3 g (aX[k]'(by omega)) (aX[p]'(by omega))
   ·rw[hq]at HL;have HE:Hid (∀q,∃aX,Way g hp N aX∧Hp.Heap (eT g) aX N∧Goes (dY x cs g (.slice (some ⟨gb,off,none⟩) n0 cap) aX) w F (wr.drewN q)):=fun q=>HD.out (vp.heap (fun _ a b ha hb=>by
     rw[<-oJ,Vl]at ha;rw[TN]at hb;cases ha;cases hb;exact oX hq)) q
    clear oJ HD bU vp jY o1 n1 H h hu hq TN Vl;go_wp2_with (first|(go_at_call 285;go_must(refine HL.mono ?_;rintro e w1⟨rfl,q,rfl⟩)));go_end0;exact⟨rfl,HE.out _⟩
   ·rw[hq]at HL;have HS: ∀q,_:=fun q=>pD (by omega:aX.length=n0) bU p k (by omega) (by omega) (by omega) (by omega) q;have HN:Hid (∀w2,Goes (dY x cs g (.slice (some ⟨gb,off,none⟩) n0 cap) (Hp.swap aX p k)) wr F1 w2->Way g hp N (Hp.swap aX p k)∧Hp.H7 (eT g) (Hp.swap aX p k) N p∧Goes (dY x cs g (.slice (some ⟨gb,off,none⟩) n0 cap) (Hp.swap aX p k)) w F w2):=fun w2 bz=>by
     refine⟨jY.swap (by omega) hk hN, ?_, ?_⟩
     ·rw[oJ];exact vp.step (iq g) (by omega) hk JO (fun a b ha hb=>by rw[<-oJ,Vl]at hb;rw[TN]at ha;cases ha;cases hb;exact tZ hq)
     ·obtain⟨F2,gl,o2,n2⟩:=bz;refine⟨F2,gl,o1.trans o2 (fun k hk hf=>(n1 k hf).elim id (fun h=>by omega)),fun k hk=> ?_⟩;rcases n2 k hk with h|h
      ·exact n1 k h
      ·exact .inr (au o1.size h)
    clear oJ HD bU vp jY o1 n1 H h hu hq TN Vl;go_wp2_with (first|(go_at_call 285;go_must(refine HL.mono ?_;rintro e w1⟨rfl,q,rfl⟩))|(go_at_call 286;go_must(refine(HS _).mono ?_;rintro e w2⟨rfl,bz⟩;have nS:=HN.out w2 bz;clear bz)));go_roundw
    case rel=>exact⟨p,by first|rfl|go_num,by omega,_,nS⟩
    case measure=>simp[intOf];omega
variable{g:Gh}{hp aX:List At}{N i0 i:Nat}
def EP(g:Gh)(hp:List At)(N i0:Nat)(aX:List At)(i:Nat):Prop:=(i=i0∧aX=hp)∨(i0<i∧Hp.Dr (eT g) aX N i)
theorem EP.near(h:EP g hp N i0 aX i)(hn:Hp.Near (eT g) hp N i0):Hp.Near (eT g) aX N i:=by
 rcases h with⟨rfl,rfl⟩|⟨_,h⟩
 ·exact hn
 ·exact h.toNear
def sI(g:Gh)(hp:List At)(N i0:Nat)(aX:List At)(b:Bool):Prop:=Way g hp N aX∧(b=true->Hp.Heap (eT g) aX N)∧(b=false->aX=hp∧ ∀k,0<k->k<N->Hp.par k=i0->Hp.Edge (eT g) aX i0 k)
theorem EP.stop(h:EP g hp N i0 aX i)(hw:Way g hp N aX)(hb: ∀k,0<k->k<N->Hp.par k=i->Hp.Edge (eT g) aX i k):sI g hp N i0 aX (decide (i0<i)):=by
 refine⟨hw,fun hd=> ?_,fun hd=> ?_⟩
 ·rcases h with⟨rfl,_⟩|⟨_,h⟩
  ·simp at hd
  ·exact h.heap hb
 ·rcases h with⟨rfl,h⟩|⟨h,_⟩
  ·exact⟨h,hb⟩
  ·simp[h]at hd
theorem ay{A:aD}{w w1 w2:World}{F F1:Ft}(o1:Only F w w1)(n1: ∀k,F1 k->F k∨w.heap.size<=k)(h:Goes A w1 F1 w2):Goes A w F w2:=by
 obtain⟨F2,gl,o2,n2⟩:=h;refine⟨F2,gl,o1.trans o2 (fun k hk hf=>(n1 k hf).elim id (fun h=>by omega)),fun k hk=> ?_⟩;rcases n2 k hk with h|h
 ·exact n1 k h
 ·exact .inr (au o1.size h)
theorem jq{j:Nat}(hi:i<hp.length)(hj:j<hp.length)(h:eT g (hp[i]'hi) (hp[j]'hj)):Hp.Edge (eT g) hp i j:=by intro a b ha hb;rw[aV hi]at ha;rw[aV hj]at hb;cases ha;cases hb;exact h
theorem qd(g:Gh)(hp:List At)(i:Nat):Hp.Edge (eT g) hp i i:=by intro a b ha hb;rw[ha]at hb;cases hb;exact((iq g).total a a).elim id id
theorem zq(x:Nat)(cs:Array Value)(g:Gh)(gb off cap n0:Nat)(hp:List At)(N i0:Nat)(w:World)(F:Ft)(JH:hp.length=n0)(hc:cs[11]?=some (.slice (some ⟨gb,off,none⟩) n0 cap))(h:(dY x cs g (.slice (some ⟨gb,off,none⟩) n0 cap) hp).holds w F)(hN:N<=hp.length)(hi:i0<N)(hu:Hp.Near (eT g) hp N i0)(hl:hp.length<=16777216):Calls prog 164 #[sf x, .int .i64 i0, .int .i64 N] w fun e w'=> ∃b aX,e= .returned (.bool b)∧sI g hp N i0 aX b∧Goes (dY x cs g (.slice (some ⟨gb,off,none⟩) n0 cap) aX) w F w':=by
 unfold sf;have Ws:=enters_of func285 (by kernel_rfl) rfl;have S4:=enters_of func286 (by kernel_rfl) rfl;have HU:Hid (Hp.Near (eT g) hp N i0):=hu;clear hu;go_enter func164,ntmps164;go_wp2;go_loopw [7] (fun iv wr=> ∃i:Nat,iv= .int .i64 i∧i<N∧ ∃aX,Hid (Way g hp N aX∧EP g hp N i0 aX i∧Goes (dY x cs g (.slice (some ⟨gb,off,none⟩) n0 cap) aX) w F wr)) (fun iv _=>N-(intOf iv).toNat)
 case atStart=>exact⟨i0,rfl,hi,hp,⟨Way.refl g hp N, .inl ⟨rfl,rfl⟩,Goes.refl h⟩⟩
 case round=>
  obtain⟨i,rfl,hk,aX,H⟩:=hrel;obtain⟨jY,mO,F1,bU,o1,n1⟩:=H.out;have hlen:=jY.len;have HD:Hid (∀(_: ∀k,0<k->k<N->Hp.par k=i->Hp.Edge (eT g) aX i k) (q:Nat),∃hE,sI g hp N i0 hE (decide (i0<i))∧Goes (dY x cs g (.slice (some ⟨gb,off,none⟩) n0 cap) hE) w F (wr.drewN q)):=fun hb q=>⟨aX,mO.stop jY hb,H.out.2.2.drewN q⟩;have HN:Hid (∀j,0<j->j<N->Hp.par j=i->Hp.Edge (eT g) aX j i->(∀k,0<k->k<N->Hp.par k=i->Hp.Edge (eT g) aX j k)-> ∀w2,Goes (dY x cs g (.slice (some ⟨gb,off,none⟩) n0 cap) (Hp.swap aX i j)) wr F1 w2->Way g hp N (Hp.swap aX i j)∧EP g hp N i0 (Hp.swap aX i j) j∧Goes (dY x cs g (.slice (some ⟨gb,off,none⟩) n0 cap) (Hp.swap aX i j)) w F w2):=fun j hj Z1 RY he hm w2 bz=>by
   have aQ:=Hp.dU hj;refine⟨jY.swap hk Z1 hN, .inr ⟨?_,(mO.near HU.out).step (by omega) Z1 RY hj he hm⟩,ay o1 n1 bz⟩;rcases mO with⟨rfl,_⟩|⟨h,_⟩
   ·omega
   ·omega
  have hmL: ∀q,_:=fun q=>fT uf (wr.drewN q) x _ (gN (bI bU q) hc);have Xv:=fT uf wr x _ (gN bU hc);have Vt: ∀q,_:=fun q=>fT ug (wr.drewN q) x _ (gN (bI bU q) hc);by_cases h1:N<=2*i+1
  ·have HE:Hid (∃hE,sI g hp N i0 hE (decide (i0<i))∧Goes (dY x cs g (.slice (some ⟨gb,off,none⟩) n0 cap) hE) w F wr):=HD.out (fun k hk Nj oJ=>by unfold Hp.par at oJ;omega) 0;clear HD HN bU mO jY o1 n1 H h hmL Xv Vt;have tH:((N:Nat):Int)<=2*(i:Int)+1:=by omega
   go_wp2;go_ret;obtain⟨hE,h1,h2⟩:=HE.out;exact⟨_,hE,by first|rfl|(congr 2;simp),h1,h2⟩
  ·obtain⟨j1,RR⟩: ∃j1,j1=2*i+1:=⟨_,rfl⟩;obtain⟨j2,RS⟩: ∃j2,j2=j1+1:=⟨_,rfl⟩;have a1:2*(i:Int)+1=(j1:Int):=by omega
   have a2:(j1:Int)+1=(j2:Int):=by omega
   have b1:j1<N:=by omega
   have b3:0<=(j1:Int):=by omega
   have b4:N<=n0:=by omega
   clear h1;obtain⟨LT,Cc⟩: ∃f:Nat->Nat->Bool,∀a b (ha:a<aX.length) (hb:b<aX.length),f a b=L3 g (aX[a]'ha) (aX[b]'hb):=
    ⟨fun a b=>if h:a<aX.length∧b<aX.length then L3 g (aX[a]'h.1) (aX[b]'h.2)else false,fun a b ha hb=>dif_pos ⟨ha,hb⟩⟩
   have PT: ∀a b:Nat,a<n0->b<n0-> ∀q:Nat,Calls prog 285 #[.slice (some ⟨gb,off,none⟩) n0 cap, .int .i64 a, .int .i64 b] (wr.drewN q) fun e w'=>e= .returned (.bool (LT a b))∧ ∃q,w'=wr.drewN q:=fun a b ha hb q=>by rw[Cc a b (by omega) (by omega)];exact En (by omega) bU a b (by omega) (by omega) (by omega) q
   have LL: ∀a b:Nat,a<n0->b<n0->Calls prog 285 #[.slice (some ⟨gb,off,none⟩) n0 cap, .int .i64 a, .int .i64 b] wr fun e w'=>e= .returned (.bool (LT a b))∧ ∃q,w'=wr.drewN q:=fun a b ha hb=>PT a b ha hb 0;by_cases h2:j2<N
   ·cases uJ:LT j2 j1
    ·have hm: ∀k,0<k->k<N->Hp.par k=i->Hp.Edge (eT g) aX j1 k:=fun k h0 Nj oJ=>by
      have:k=j1∨k=j2:=by unfold Hp.par at oJ;omega
      rcases this with rfl|rfl
      ·exact qd g _ _
      ·exact jq (by omega) (by omega) (oX ((Cc _ _ _ _).symm.trans uJ))
     cases tJ:LT j1 i
     ·have HE:Hid (∀q,∃hE,sI g hp N i0 hE (decide (i0<i))∧Goes (dY x cs g (.slice (some ⟨gb,off,none⟩) n0 cap) hE) w F (wr.drewN q)):=fun q=>HD.out (fun k h0 Nj oJ=>Hp.Edge.trans (iq g) (by omega) (jq (by omega) (by omega) (oX ((Cc _ _ _ _).symm.trans tJ))) (hm k h0 Nj oJ)) q;clear HD HN bU mO jY o1 n1 H h hm RR RS Cc;go_wp2_with (first|(go_at_call 285;first|(refine(PT _ _ (by omega) (by omega) _).mono ?_;rintro e w1⟨rfl,q,rfl⟩)|(refine(LL _ _ (by omega) (by omega)).mono ?_;rintro e w1⟨rfl,q,rfl⟩)));go_ret;obtain⟨hE,h1,h2⟩:=HE.out _;exact⟨_,hE,by first|rfl|(congr 2;simp),h1,h2⟩
     ·have HS: ∀q,_:=fun q=>pD (by omega:aX.length=n0) bU i j1 (by omega) (by omega) (by omega) (by omega) q;have Sr:Hid _:=HN.out j1 (by omega) (by omega) (by unfold Hp.par;omega) (jq (by omega) (by omega) (tZ ((Cc _ _ _ _).symm.trans tJ))) hm;have aQ:i<j1∧j1<N:=by omega
      clear HD HN bU mO jY o1 n1 H h hm RR RS Cc;go_wp2_with (first|(go_at_call 285;first|(refine(PT _ _ (by omega) (by omega) _).mono ?_;rintro e w1⟨rfl,q,rfl⟩)|(refine(LL _ _ (by omega) (by omega)).mono ?_;rintro e w1⟨rfl,q,rfl⟩))|(go_at_call 286;go_must(refine(HS _).mono ?_;rintro e w2⟨rfl,bz⟩;have nS:=Sr.out w2 bz;clear bz)));go_roundw
      case rel=>exact⟨j1,by first|rfl|go_num,aQ.2,_,nS⟩
      case measure=>simp[intOf];omega
    ·have hm: ∀k,0<k->k<N->Hp.par k=i->Hp.Edge (eT g) aX j2 k:=fun k h0 Nj oJ=>by
      have:k=j1∨k=j2:=by unfold Hp.par at oJ;omega
      rcases this with rfl|rfl
      ·exact jq (by omega) (by omega) (tZ ((Cc _ _ _ _).symm.trans uJ))
      ·exact qd g _ _
     cases tJ:LT j2 i
     ·have HE:Hid (∀q,∃hE,sI g hp N i0 hE (decide (i0<i))∧Goes (dY x cs g (.slice (some ⟨gb,off,none⟩) n0 cap) hE) w F (wr.drewN q)):=fun q=>HD.out (fun k h0 Nj oJ=>Hp.Edge.trans (iq g) (by omega) (jq (by omega) (by omega) (oX ((Cc _ _ _ _).symm.trans tJ))) (hm k h0 Nj oJ)) q;clear HD HN bU mO jY o1 n1 H h hm RR RS Cc;go_wp2_with (first|(go_at_call 285;first|(refine(PT _ _ (by omega) (by omega) _).mono ?_;rintro e w1⟨rfl,q,rfl⟩)|(refine(LL _ _ (by omega) (by omega)).mono ?_;rintro e w1⟨rfl,q,rfl⟩)));go_ret;obtain⟨hE,h1,h2⟩:=HE.out _;exact⟨_,hE,by first|rfl|(congr 2;simp),h1,h2⟩
     ·have HS: ∀q,_:=fun q=>pD (by omega:aX.length=n0) bU i j2 (by omega) (by omega) (by omega) (by omega) q;have Sr:Hid _:=HN.out j2 (by omega) (by omega) (by unfold Hp.par;omega) (jq (by omega) (by omega) (tZ ((Cc _ _ _ _).symm.trans tJ))) hm;have aQ:i<j2∧j2<N:=by omega
      clear HD HN bU mO jY o1 n1 H h hm RR RS Cc;go_wp2_with (first|(go_at_call 285;first|(refine(PT _ _ (by omega) (by omega) _).mono ?_;rintro e w1⟨rfl,q,rfl⟩)|(refine(LL _ _ (by omega) (by omega)).mono ?_;rintro e w1⟨rfl,q,rfl⟩))|(go_at_call 286;go_must(refine(HS _).mono ?_;rintro e w2⟨rfl,bz⟩;have nS:=Sr.out w2 bz;clear bz)));go_roundw
      case rel=>exact⟨j2,by first|rfl|go_num,aQ.2,_,nS⟩
      case measure=>simp[intOf];omega
   ·have hm: ∀k,0<k->k<N->Hp.par k=i->Hp.Edge (eT g) aX j1 k:=fun k h0 Nj oJ=>by
     have:k=j1:=by unfold Hp.par at oJ;omega
     rw[this];exact qd g _ _
    cases tJ:LT j1 i
    ·have HE:Hid (∀q,∃hE,sI g hp N i0 hE (decide (i0<i))∧Goes (dY x cs g (.slice (some ⟨gb,off,none⟩) n0 cap) hE) w F (wr.drewN q)):=fun q=>HD.out (fun k h0 Nj oJ=>Hp.Edge.trans (iq g) (by omega) (jq (by omega) (by omega) (oX ((Cc _ _ _ _).symm.trans tJ))) (hm k h0 Nj oJ)) q;clear HD HN bU mO jY o1 n1 H h hm RR RS Cc;go_wp2_with (first|(go_at_call 285;first|(refine(PT _ _ (by omega) (by omega) _).mono ?_;rintro e w1⟨rfl,q,rfl⟩)|(refine(LL _ _ (by omega) (by omega)).mono ?_;rintro e w1⟨rfl,q,rfl⟩)));go_ret;obtain⟨hE,h1,h2⟩:=HE.out _;exact⟨_,hE,by first|rfl|(congr 2;simp),h1,h2⟩
    ·have HS: ∀q,_:=fun q=>pD (by omega:aX.length=n0) bU i j1 (by omega) (by omega) (by omega) (by omega) q;have Sr:Hid _:=HN.out j1 (by omega) (by omega) (by unfold Hp.par;omega) (jq (by omega) (by omega) (tZ ((Cc _ _ _ _).symm.trans tJ))) hm;have aQ:i<j1∧j1<N:=by omega
     clear HD HN bU mO jY o1 n1 H h hm RR RS Cc;go_wp2_with (first|(go_at_call 285;first|(refine(PT _ _ (by omega) (by omega) _).mono ?_;rintro e w1⟨rfl,q,rfl⟩)|(refine(LL _ _ (by omega) (by omega)).mono ?_;rintro e w1⟨rfl,q,rfl⟩))|(go_at_call 286;go_must(refine(HS _).mono ?_;rintro e w2⟨rfl,bz⟩;have nS:=Sr.out w2 bz;clear bz)));go_roundw
     case rel=>exact⟨j1,by first|rfl|go_num,aQ.2,_,nS⟩
     case measure=>simp[intOf];omega
