import Derived.Test.YtffamlbkmjmipaaGreatDoorB03
import Derived.Test.YtffamlbkmjmipaaGreatDoorB07
import Derived.OwnWalk
import Derived.Deep.DeepMust
import Derived.Deep.RegionWith
import Derived.Deep.RegionLaw
import Derived.Shelf.Abstract
import Derived.LaidEqlPtr
set_option maxHeartbeats 8000000
set_option maxRecDepth 100000
namespace Go.Proofs.YtffamlbkmjmipaaGreatDoor
open _root_.Go.Proofs.Tryz
namespace Pj
open Go.RowKit aM Mc Go.Maps
def kS:Kd prog 3 Int where
 keyed:=int_keyed underlying3
 lk c:= .int .i64 c
 val c:= .int .i64 c
 ok c:=(Lit.int .i64 c).wf=true
 key c h:=keyOf_int_mk underlying3 h
 inj c d h:=by cases h;rfl
 lit _:=trivial
def bs(b:Bs):Value:= .string ⟨b.toArray⟩
def wU:Kd prog 9 Bs where
 keyed:=string_keyed underlying9
 lk c:= .string c
 val c:=bs c
 ok c:=c.length<=maxLen
 key c h:=by have:=WideMaps.keyOf_string_mk (P:=prog) underlying9 (s:=⟨c.toArray⟩) (by simpa[ByteArray.size]using h);simpa[bs]using this
 inj c d h:=by cases h;rfl
 lit _:=trivial
def fW(g:Gh)(a:At)(k:Nat):Array Value:= #[.int .i64 a.n,pt (g.rp a.id), .int .i64 a.conn, .int .i64 (g.sr (key a)), .int .i64 a.k7, .int .i64 a.eV, .int .i64 k]
def gD(g:Gh)(a:At)(k:Nat):aM:=blk (g.ap (key a)) (.cells (fW g a k) 126 (0,0))
def gV(g:Gh)(re:Int)(q:Rq)(av:Value):Array Value:= #[.int .i64 q.id, .int .i64 q.conn,pt (g.tp q.ten),bs q.txt, .int .i64 q.n, .int .i64 (re-q.left), .bool q.bn,av]
def mj(g:Gh)(re:Int)(q:Rq)(av:Value):aM:=blk (g.rp q.id) (.cells (gV g re q av) 132 (0,0))
def lx(g:Gh)(av:Value)(id:Int)(al:List Int):aM:=rowA 127 1 av al.length (al.map fun n=>pt (g.ap (id,n)))
def dO(g:Gh)(re:Int)(r:Rr):aM:=ex fun av=>aa (mj g re r.q av) (lx g av r.q.id r.al)
def JI(t:Tr)(wv:Value):Array Value:= #[bs t.nm,wv, .int .i64 t.rn]
def mS(g:Gh)(t:Tr)(wv:Value):aM:=blk (g.tp t.nm) (.cells (JI t wv) 92 (0,0))
def l8(g:Gh)(wv:Value)(wt:List Int):aM:=rowA 124 1 wv wt.length (wt.map fun i=>pt (g.rp i))
def gA(g:Gh)(t:Tr):aM:=ex fun wv=>aa (mS g t wv) (l8 g wv t.wt)
def byV(b:UInt8):Value:= .int .u8 b.toNat
def EA(p:Nat)(dr:Bool)(kv:Value):aM:=blk p (.cells #[kv, .bool dr] 107 (0,0))
def ac7(e:TypeId)(v:Value)(n:Nat)(xs:List Value):aM where
 holds w F:=w.ownsRow 0 e 1 v n xs∧ ∀k,F k↔v.ownBlock=some k
 lt h k hk:=by
  obtain⟨h,hF⟩:=h;have hv:=(hF k).1 hk;rcases h.2 with⟨h1,_⟩|⟨g,cap,cur,h1,_,hg,_⟩
  ·rw[h1]at hv;cases hv
  ·rw[h1]at hv;cases hv;exact(cT.1 hg).1
 keep h hk:=by
  obtain⟨h,hF⟩:=h;refine⟨⟨h.1, ?_⟩,hF⟩;rcases h.2 with h1|⟨g,cap,cur,h1,hb,hg,h2⟩
  ·exact .inl h1
  ·exact .inr ⟨g,cap,cur,h1,hb,(hk g ((hF g).2 (by rw[h1];rfl))).trans hg,h2⟩
def KO(kv:Value)(b:Bs):aM:=ac7 5 kv b.length (b.map byV)
def jo(k:Kn):aM:=ex fun kv=>aa (EA k.p k.dr kv) (KO kv k.kept)
def fK(g:Gh)(rv:Value)(ring:List Bs):aM:=rowA 89 1 rv ring.length (ring.map fun t=>pt (g.tp t))
def jw(pv:Value)(pull:List Int):aM:=rowA 3 1 pv pull.length (pull.map fun c=> .int .i64 c)
def eY(g:Gh)(lv:Value)(hp:List At):aM:=rowA 127 1 lv hp.length (hp.map fun a=>pt (g.ap (key a)))
structure Dv where
 cm:Nat
 rm:Nat
 tm:Nat
 rv:Value
 pv:Value
 lv:Value
def zE(j:Js)(v:Dv):Array Value:= #[.int .i64 j.c.le, .int .i64 j.c.re, .int .i64 j.c.ca, .int .i64 j.c.bo, .int .i64 j.c.he, .int .i64 j.now, .map (some v.cm), .map (some v.rm), .map (some v.tm),v.rv,v.pv,v.lv, .int .i64 j.begun]
def dB(x:Nat)(j:Js)(v:Dv):aM:=blk x (.cells (zE j v) 88 (0,0))
def kN(b:Nat)(l:List Kn):aM:=mapA kS b (l.map fun k=>(k.n,k.p))
def jS(g:Gh)(b:Nat)(l:List Rr):aM:=mapA kS b (l.map fun r=>(r.q.id,g.rp r.q.id))
def jk(g:Gh)(b:Nat)(l:List Tr):aM:=mapA wU b (l.map fun t=>(t.nm,g.tp t.nm))
def hpA(g:Gh)(hp:List At):aM:=all (fun x:At×Nat=>gD g x.1 x.2) hp.zipIdx
def bk(x:Nat)(g:Gh)(j:Js)(v:Dv):aM:=
 aa (dB x j v) (aa (kN v.cm j.bT) (aa (jS g v.rm j.reqs) (aa (jk g v.tm j.aW) (aa (all jo j.bT) (aa (all (dO g j.c.re) j.reqs) (aa (all (gA g) j.aW) (aa (fK g v.rv j.ring) (aa (jw v.pv j.pull) (aa (eY g v.lv j.hp) (hpA g j.hp))))))))))
def jA(x:Nat)(g:Gh)(j:Js):aM:=ex fun v=>bk x g j v
end Pj
namespace Pj
open Go.RowKit aM Mc
variable{name:String}{f:FuncId}
theorem Cs:(prog.info? 184).map (fun i=>(i.methods.find? (·.name== "Len")).map fun m=>(m.path,m.func))=some (some (#[],some (284,false))):=by kernel_rfl
theorem ze:(prog.info? 184).map (fun i=>(i.methods.find? (·.name== "Less")).map fun m=>(m.path,m.func))=some (some (#[],some (285,false))):=by kernel_rfl
theorem zf:(prog.info? 184).map (fun i=>(i.methods.find? (·.name== "Swap")).map fun m=>(m.path,m.func))=some (some (#[],some (286,false))):=by kernel_rfl
theorem Qx:(prog.info? 184).map (fun i=>(i.methods.find? (·.name== "Push")).map fun m=>(m.path,m.func))=some (some (#[],some (288,true))):=by kernel_rfl
theorem UA:(prog.info? 184).map (fun i=>(i.methods.find? (·.name== "Pop")).map fun m=>(m.path,m.func))=some (some (#[],some (287,true))):=by kernel_rfl
theorem zg{b:Bool}(h:(prog.info? 184).map (fun i=>(i.methods.find? (·.name==name)).map fun m=>(m.path,m.func))=some (some (#[],some (f,b)))): ∃i m,prog.info? 184=some i∧i.methods.find? (·.name==name)=some m∧m.path= #[]∧m.func=some (f,b):=by
 cases hi:prog.info? 184 with
 |none=>rw[hi]at h;cases h
 |some i=>
  rw[hi]at h;cases hm:i.methods.find? (·.name==name)with
  |none=>simp[hm]at h
  |some m=>simp[hm]at h;exact⟨i,m,rfl,hm,h.1,h.2⟩
theorem Vr(w:World)(t:TypeId)(a:Addr)(s m:String):(Builtin.ssaWrapNilChk_ #[t] t #[.pointer (some a),strVal s,strVal m]).run prog w= .ok (.pointer (some a)) w:=rfl
theorem jc(h:(prog.info? 184).map (fun i=>(i.methods.find? (·.name==name)).map fun m=>(m.path,m.func))=some (some (#[],some (f,false))))(w:World)(x:Nat)(lv:Value)(hc:w.cell? ⟨x,11,none⟩=some lv):(method 429 184 (.pointer (some ⟨x,11,none⟩)) name).run prog w= .ok (f,lv) w:=by obtain⟨i,m,h1,h2,h3,h4⟩:=zg h;unfold method;simp[typeInfo,h1,h2,h3,h4,follow,receiverAt,Place.get,Vr,asAddr,go_sem,hc]
theorem E4(h:(prog.info? 184).map (fun i=>(i.methods.find? (·.name==name)).map fun m=>(m.path,m.func))=some (some (#[],some (f,true))))(w:World)(x:Nat):(method 429 184 (.pointer (some ⟨x,11,none⟩)) name).run prog w= .ok (f, .pointer (some ⟨x,11,none⟩)) w:=by obtain⟨i,m,h1,h2,h3,h4⟩:=zg h;unfold method;simp[typeInfo,h1,h2,h3,h4,follow,receiverAt,Place.get,go_sem]
variable{w w':World}{F:Ft}
section
variable{α κ:Type} [DecidableEq κ]{A:α->aM}
theorem SS{k:α->κ}{c:κ}{f:α->α}{l:List α}:all A (upd k c f (l.filter fun y=>decide (k y≠c)))=all A (l.filter fun y=>decide (k y≠c)):=by
 have:upd k c f (l.filter fun y=>decide (k y≠c))=l.filter fun y=>decide (k y≠c):=by
  unfold upd;refine(bY fun x hx=> ?_).trans (List.map_id _);have:k x≠c:=by simpa using(aR.1 hx).2
  rw[if_neg this];rfl
 rw[this]
theorem Fg{k:α->κ}{l:List α}(hn:(l.map k).Nodup){x:α}(hx:x∈l):l.Perm (x::l.filter fun y=>decide (k y≠k x)):=by
 induction l with
 |nil=>cases hx
 |cons y l ih=>
  rw[List.map_cons,List.nodup_cons]at hn;rcases List.mem_cons.1 hx with e|e
  ·subst e;rw[List.filter_cons_of_neg (by simp)];have:l.filter (fun y=>decide (k y≠k x))=l:=List.filter_eq_self.2 fun z hz=>by
    have:k z≠k x:=fun e=>hn.1 (aA.2 ⟨z,hz,e⟩);simpa using this
   rw[this]
  ·have cC:k y≠k x:=fun e'=>hn.1 (aA.2 ⟨x,e,e'.symm⟩);rw[List.filter_cons_of_pos (by simpa using cC)];exact((ih hn.2 e).cons y).trans (List.Perm.swap _ _ _)
theorem my{k:α->κ}{l:List α}(hn:(l.map k).Nodup){x:α}(hx:x∈l):all A l=aa (A x) (all A (l.filter fun y=>decide (k y≠k x))):=Dg A (Fg hn hx)
theorem J2{k:α->κ}{l:List α}(hn:(l.map k).Nodup){x:α}(hx:x∈l)(f:α->α):all A (upd k (k x) f l)=aa (A (f x)) (all A (l.filter fun y=>decide (k y≠k x))):=by have hp:=(Fg hn hx).map (fun y=>if k y=k x then f y else y);rw[List.map_cons,if_pos rfl]at hp;have:=Dg A hp;rw[show upd k (k x) f l=l.map (fun y=>if k y=k x then f y else y)from rfl,this];show aa (A (f x)) (all A (upd k (k x) f (l.filter fun y=>decide (k y≠k x))))=_;rw[SS]
end
section
variable{α:Type}{A:α->aM}
theorem kM: ∀{l:List α} {i:Nat},i<l.length-> ∀u,all A (l.set i u)=aa (A u) (all A (l.eraseIdx i))
 | [],i,h,_=>by simp at h
 |x::l,0,_,u=>rfl
 |x::l,i+1,h,u=>by show aa (A x) (all A (l.set i u))=aa (A u) (aa (A x) (all A (l.eraseIdx i)));rw[kM (by simpa using h),bq]
theorem sw{l:List α}{i:Nat}(h:i<l.length):all A l=aa (A l[i]) (all A (l.eraseIdx i)):=by have:=kM (A:=A) h l[i];rwa[List.set_getElem_self]at this
theorem BC: ∀{l:List α} {i j:Nat},i<j->j<l.length-> ∃R:aM,∀u v,all A ((l.set i u).set j v)=aa (A u) (aa (A v) R)
 | [],_,_,_,h=>by simp at h
 |x::l,0,j+1,_,h=>⟨all A (l.eraseIdx j),fun u v=>by show aa (A u) (all A (l.set j v))=_;rw[kM (by simpa using h)]⟩
 |x::l,i+1,j+1,h1,h2=>by
  obtain⟨R,hR⟩:=BC (l:=l) (i:=i) (j:=j) (by omega) (by simpa using h2);refine⟨aa (A x) R,fun u v=> ?_⟩;show aa (A x) (all A ((l.set i u).set j v))=_;rw[hR u v]
  ac_rfl
theorem Df{l:List α}{i j:Nat}(hi:i<l.length)(hj:j<l.length)(cC:i≠j): ∃R:aM,all A l=aa (A l[i]) (aa (A l[j]) R)∧ ∀u v,all A ((l.set i u).set j v)=aa (A u) (aa (A v) R):=by
 rcases Nat.lt_or_gt_of_ne cC with h|h
 ·obtain⟨R,hR⟩:=BC (A:=A) h hj;refine⟨R, ?_,hR⟩;have:=hR l[i] l[j];simpa using this
 ·obtain⟨R,hR⟩:=BC (A:=A) h hi;refine⟨R, ?_,fun u v=> ?_⟩
  ·have:=hR l[j] l[i];simp at this;rw[this,bq]
  ·rw[List.set_comm _ _ cC,hR v u,bq]
end
theorem aV{A' B:aM}{G H:Ft}(hb:B.holds w H)(h:Goes A' w G w')(d: ∀k,G k-> ¬H k)(e: ∀k,F k↔G k∨H k):Goes (aa A' B) w F w':=by
 obtain⟨G',ha',o,n⟩:=h;have ay:=B.lt hb;refine⟨fun k=>G' k∨H k,⟨G',H,ha',B.keep hb (fun k hk=>o.block k (ay k hk) (fun hg=>d k hg hk)),fun k hk hh=> ?_,fun k=>Iff.rfl⟩,o.mono (fun k _ hk=>(e k).2 (.inl hk)),fun k hk=> ?_⟩
 ·rcases n k hk with h|h
  ·exact d k h hh
  ·have:=ay k hh;omega
 ·rcases hk with hk|hk
  ·rcases n k hk with h|h
   ·exact .inl ((e k).2 (.inl h))
   ·exact .inr h
  ·exact .inl ((e k).2 (.inr hk))
theorem jD{P:Program}{f:FuncId}{args:Array Value}{A A' B:aM}{v:Ending}(h:(aa A B).holds w F)(c: ∀G,A.holds w G->Calls P f args w fun e w'=>e=v∧Goes A' w G w'):Calls P f args w fun e w'=>e=v∧Goes (aa A' B) w F w':=by obtain⟨G,H,ha,hb,d,e⟩:=h;refine(c G ha).mono ?_;rintro e' w'⟨h1,h2⟩;exact⟨h1,aV hb h2 d e⟩
theorem eT{A':aM}{q:Nat}(h:Goes A' (w.drewN q) F w'):Goes A' w F w':=by obtain⟨F',h1,o,n⟩:=h;exact⟨F',h1,⟨o.os,o.tape,o.output,o.size,o.block⟩,n⟩
theorem cB{A:aM}(h:A.holds w F)(q:Nat):A.holds (w.drewN q) F:=A.keep h (fun _ _=>rfl)
variable{g:Gh}{a b:At}{w:World}{gb off cap:Nat}{hp:List At}
theorem yl(w:World)(a b:Nat):(w.drewN a).drewN b=w.drewN (a+b):=by simp[World.drewN,Nat.add_assoc]
def Sm(g:Gh)(a b:At):Bool:=if a.eV=b.eV then decide (g.sr (key a)<g.sr (key b))else decide (a.eV<b.eV)
theorem yZ(h:Sm g a b=true):gH g a b:=by
 unfold Sm at h;unfold gH;split at h
 ·have:g.sr (key a)<g.sr (key b):=by simpa using h
  omega
 ·have:a.eV<b.eV:=by simpa using h
  omega
theorem tX(h:Sm g a b=false):gH g b a:=by
 unfold Sm at h;unfold gH;split at h
 ·have: ¬g.sr (key a)<g.sr (key b):=by simpa using h
  omega
 ·have: ¬a.eV<b.eV:=by simpa using h
  omega
theorem ag(w:World)(n:Nat)(a:Addr)(v:Value):(w.drewN n).setCell a v=(w.setCell a v).drewN n:=rfl
theorem ar(w:World)(n:Nat)(o:Obj):(w.drewN n).alloc o=(w.alloc o).drewN n:=rfl
structure LF(w:World)(g:Gh)(gb off cap:Nat)(hp:List At):Prop where
 cell: ∀i (h:i<hp.length),w.cell? ⟨gb,off+i,none⟩=some (.pointer (some ⟨g.ap (key hp[i]),0,none⟩))
 aap: ∀i,w.frozen? ⟨gb,i,none⟩=false
 bS: ∀i (h:i<hp.length),w.heap[g.ap (key hp[i])]?=some (.cells (fW g hp[i] i) 126 (0,0))
theorem LF.at'(h:LF w g gb off cap hp)(i:Nat)(hi:i<hp.length)(j:Nat):w.cell? ⟨g.ap (key hp[i]),j,none⟩=(fW g hp[i] i)[j]?:=by simp only[World.cell?,h.bS i hi];rfl
theorem LF.atf(h:LF w g gb off cap hp)(i:Nat)(hi:i<hp.length)(j:Nat):w.frozen? ⟨g.ap (key hp[i]),j,none⟩=false:=by simp only[World.frozen?,h.bS i hi];simp
theorem Qi(g:Gh)(gb off cap:Nat)(hp:List At)(w:World)(h:LF w g gb off cap hp)(i j:Nat)(hi:i<hp.length)(hj:j<hp.length)(_hl:hp.length<=16777216):Calls prog 285 #[.slice (some ⟨gb,off,none⟩) hp.length cap, .int .i64 i, .int .i64 j] w fun e w'=>e= .returned (.bool (Sm g hp[i] hp[j]))∧ ∃q,w'=w.drewN q:=by
 have ci:=h.cell i hi;have cj:=h.cell j hj;have ti:w.cell? ⟨g.ap (key hp[i]),5,none⟩=some (.int .i64 hp[i].eV):=h.at' i hi 5;have tj:w.cell? ⟨g.ap (key hp[j]),5,none⟩=some (.int .i64 hp[j].eV):=h.at' j hj 5;have si:w.cell? ⟨g.ap (key hp[i]),3,none⟩=some (.int .i64 (g.sr (key hp[i]))):=h.at' i hi 3;have sj:w.cell? ⟨g.ap (key hp[j]),3,none⟩=some (.int .i64 (g.sr (key hp[j]))):=h.at' j hj 3;unfold Sm;clear h;generalize hp[i].eV=tli at*;generalize hp[j].eV=tlj at*;generalize g.sr (key hp[i])=sri at*;generalize g.sr (key hp[j])=srj at*;generalize g.ap (key hp[i])=ai at*;generalize g.ap (key hp[j])=aj at*;generalize hp.length=n at*;cases hq:(tli==tlj)
 ·have e: ¬tli=tlj:=by simpa using hq
  rw[if_neg e];go_enter func285,ntmps285;go_wp2
  go_quiet (fail)
  go_wp2
  go_quiet (fail)
  go_wp2;go_ret;exact⟨rfl,_,yl _ _ _⟩
 ·have e:tli=tlj:=by simpa using hq
  rw[if_pos e];go_enter func285,ntmps285;go_wp2
  go_quiet (fail)
  go_wp2
  go_quiet (fail)
  go_wp2;go_ret;exact⟨rfl,_,yl _ _ _⟩
end Pj
namespace Pj
open Go.RowKit aM Mc
attribute [local go_sem] ag
variable{g:Gh}{gb off cap i j:Nat}{hp:List At}{w:World}{F:Ft}
def Av(g:Gh)(lv:Value)(hp:List At):aM:=aa (eY g lv hp) (hpA g hp)
theorem Wl(h:(Av g (.slice (some ⟨gb,off,none⟩) hp.length cap) hp).holds w F):LF w g gb off cap hp:=by
 obtain⟨G,H,ha,hb,d,e⟩:=h;refine⟨fun i hi=> ?_,fun i=>bV ha i,fun i hi=> ?_⟩
 ·rw[bm ha i (by omega),List.getElem?_map,a7 hi];rfl
 ·have hz:i<hp.zipIdx.length:=by simpa using hi
  unfold hpA at hb;rw[sw hz]at hb;have:=(dC hb).1;simpa using this
theorem Uv{lv:Value}(h:(Av g lv hp).holds w F): ∃ao cap,lv= .slice ao hp.length cap∧hp.length<=cap∧cap<=maxLen∧(0<hp.length-> ∃gb off,ao=some ⟨gb,off,none⟩):=by obtain⟨G,H,ha,_⟩:=h;obtain⟨ao,cap,h1,h2,h3,h4,_⟩:=bC ha;exact⟨ao,cap,h1,h2,h3,fun hn=>by obtain⟨g,off,e,_⟩:=h4 hn;exact⟨g,off,e⟩⟩
theorem RS{l:List At}(hi:i<l.length)(hj:j<l.length):(Hp.swap l i j).zipIdx=(l.zipIdx.set i (l[j],i)).set j (l[i],j):=by
 rw[Hp.swap_eq (a7 hi) (a7 hj)];apply List.ext_getElem?;intro k;rw[List.getElem?_zipIdx,List.getElem?_set,List.getElem?_set,List.getElem?_set,List.getElem?_set,List.getElem?_zipIdx];simp only[List.length_set,List.length_zipIdx,Nat.zero_add];by_cases e1:j=k
 ·subst e1;simp[hj]
 ·by_cases e2:i=k
  ·subst e2;simp[e1,hi]
  ·simp[e1,e2]
theorem Np(h:(Av g (.slice (some ⟨gb,off,none⟩) hp.length cap) hp).holds w F)(hi:i<hp.length)(hj:j<hp.length)(cC:i≠j)(q q':Nat):Goes (Av g (.slice (some ⟨gb,off,none⟩) hp.length cap) (Hp.swap hp i j)) w F ((((((w.setCell ⟨gb,off+i,none⟩ (.pointer (some ⟨g.ap (key hp[j]),0,none⟩))).setCell ⟨gb,off+j,none⟩ (.pointer (some ⟨g.ap (key hp[i]),0,none⟩))).drewN q).setCell ⟨g.ap (key hp[j]),6,none⟩ (.int .i64 i)).setCell ⟨g.ap (key hp[i]),6,none⟩ (.int .i64 j)).drewN q'):=by
 have hz: ∀{k},k<hp.length->k<hp.zipIdx.length:=fun h=>by simpa using h
 obtain⟨R,hR1,hR2⟩:=Df (A:=fun x:At×Nat=>gD g x.1 x.2) (hz hi) (hz hj) cC;have e1:Av g (.slice (some ⟨gb,off,none⟩) hp.length cap) hp=aa (eY g (.slice (some ⟨gb,off,none⟩) hp.length cap) hp) (aa (gD g hp[i] i) (aa (gD g hp[j] j) R)):=by unfold Av hpA;rw[hR1];simp
 have e2:Av g (.slice (some ⟨gb,off,none⟩) hp.length cap) (Hp.swap hp i j)=aa (eY g (.slice (some ⟨gb,off,none⟩) hp.length cap) (Hp.swap hp i j)) (aa (gD g hp[j] i) (aa (gD g hp[i] j) R)):=by unfold Av hpA;rw[RS hi hj,hR2]
 rw[e1]at h;rw[e2];have s1:Goes (aa (eY g (.slice (some ⟨gb,off,none⟩) hp.length cap) (Hp.swap hp i j)) (aa (gD g hp[i] i) (aa (gD g hp[j] j) R))) w F
   ((w.setCell ⟨gb,off+i,none⟩ (.pointer (some ⟨g.ap (key hp[j]),0,none⟩))).setCell ⟨gb,off+j,none⟩ (.pointer (some ⟨g.ap (key hp[i]),0,none⟩))):=by
  refine Goes.frame h fun G hG _=> ?_;have r1:=cu hG i (.pointer (some ⟨g.ap (key hp[j]),0,none⟩)) (by omega);refine(r1.trans fun G' zF=>cu zF j (.pointer (some ⟨g.ap (key hp[i]),0,none⟩)) (by omega)).eq ?_;unfold eY;rw[Hp.wC,Hp.swap_eq (a7 hi) (a7 hj),List.map_set,List.map_set];rfl
 have s2:=s1.drewN q;have s3:=(s2.eq (show _=aa (blk (g.ap (key hp[j])) (.cells (fW g hp[j] j) 126 (0,0))) (aa (eY g (.slice (some ⟨gb,off,none⟩) hp.length cap) (Hp.swap hp i j)) (aa (gD g hp[i] i) R))by unfold gD;ac_rfl)).store 6 (.int .i64 i);have s4:=(s3.eq (show _=aa (blk (g.ap (key hp[i])) (.cells (fW g hp[i] i) 126 (0,0))) (aa (eY g (.slice (some ⟨gb,off,none⟩) hp.length cap) (Hp.swap hp i j)) (aa (gD g hp[j] i) R))by
  show aa (gD g hp[j] i) (aa (eY g (.slice (some ⟨gb,off,none⟩) hp.length cap) (Hp.swap hp i j)) (aa (gD g hp[i] i) R))=aa (gD g hp[i] i) _
  ac_rfl)).store 6 (.int .i64 j)
 refine(s4.drewN q').eq ?_;show aa (gD g hp[i] j) (aa (eY g (.slice (some ⟨gb,off,none⟩) hp.length cap) (Hp.swap hp i j)) (aa (gD g hp[j] i) R))=_
 ac_rfl
theorem Ql(h:(Av g (.slice (some ⟨gb,off,none⟩) hp.length cap) hp).holds w F)(hi:i<hp.length)(hj:j<hp.length)(cC:i≠j):gb≠g.ap (key hp[i])∧gb≠g.ap (key hp[j])∧g.ap (key hp[i])≠g.ap (key hp[j]):=by
 have hz: ∀{k},k<hp.length->k<hp.zipIdx.length:=fun h=>by simpa using h
 obtain⟨R,hR1,_⟩:=Df (A:=fun x:At×Nat=>gD g x.1 x.2) (hz hi) (hz hj) cC;obtain⟨G,H,ha,hb,d,e⟩:=h;have hG:=(dK ha).2;unfold hpA at hb;rw[hR1]at hb;simp only[List.getElem_zipIdx,Nat.zero_add]at hb;have h1:=dC hb;have h2:=OE hb;rw[bq]at hb;have h3:=dC hb;exact⟨fun e=>d gb hG (e▸h1.2),fun e=>d gb hG (e▸h3.2),h2⟩
theorem swap_any(g:Gh)(gb off cap:Nat)(hp:List At)(w:World)(F:Ft)(h:(Av g (.slice (some ⟨gb,off,none⟩) hp.length cap) hp).holds w F)(i j:Nat)(hi:i<hp.length)(hj:j<hp.length)(cC:i≠j)(_hl:hp.length<=16777216):Calls prog 286 #[.slice (some ⟨gb,off,none⟩) hp.length cap, .int .i64 i, .int .i64 j] w fun e w'=>e= .returned (.tuple #[])∧Goes (Av g (.slice (some ⟨gb,off,none⟩) hp.length cap) (Hp.swap hp i j)) w F w':=by
 have HF:=Wl h;have ci:=HF.cell i hi;have cj:=HF.cell j hj;have fi:=HF.aap (off+i);have fj:=HF.aap (off+j);have pi:w.cell? ⟨g.ap (key hp[i]),6,none⟩=some (.int .i64 i):=HF.at' i hi 6;have pj:w.cell? ⟨g.ap (key hp[j]),6,none⟩=some (.int .i64 j):=HF.at' j hj 6;have fpi:=HF.atf i hi 6;have fpj:=HF.atf j hj 6;obtain⟨n1,n2,n3⟩:=Ql h hi hj cC;have HG:Hid (∀q q',Goes (Av g (.slice (some ⟨gb,off,none⟩) hp.length cap) (Hp.swap hp i j)) w F
   ((((((w.setCell ⟨gb,off+i,none⟩ (.pointer (some ⟨g.ap (key hp[j]),0,none⟩))).setCell ⟨gb,off+j,none⟩ (.pointer (some ⟨g.ap (key hp[i]),0,none⟩))).drewN q).setCell ⟨g.ap (key hp[j]),6,none⟩ (.int .i64 i)).setCell ⟨g.ap (key hp[i]),6,none⟩ (.int .i64 j)).drewN q')):=fun q q'=>Np h hi hj cC q q'
 clear HF h;generalize g.ap (key hp[i])=ai at*;generalize g.ap (key hp[j])=aj at*;generalize hp.length=n at*;have aa2:(⟨gb,off+i,none⟩:Addr)≠⟨gb,off+j,none⟩:=fun e=>cC (by injection e with _ e;omega);obtain⟨W1,vP⟩: ∃W1,W1=((w.setCell ⟨gb,off+i,none⟩ (.pointer (some ⟨aj,0,none⟩))).setCell ⟨gb,off+j,none⟩ (.pointer (some ⟨ai,0,none⟩))).drew:=⟨_,rfl⟩;have k1:W1.cell? ⟨gb,off+i,none⟩=some (.pointer (some ⟨aj,0,none⟩)):=by rw[vP];show(World.setCell _ _ _).cell? _=_;rw[World.cell?_setCell_other _ _ _ _ (Ne.symm aa2)];exact World.cell?_setCell_same _ _ _ ci
 have k2:W1.cell? ⟨gb,off+j,none⟩=some (.pointer (some ⟨ai,0,none⟩)):=by rw[vP];show(World.setCell _ _ _).cell? _=_;exact World.cell?_setCell_same _ _ _ (by rw[World.cell?_setCell_other _ _ _ _ aa2];exact cj)
 have k3:W1.cell? ⟨ai,6,none⟩=some (.int .i64 i):=by rw[vP];show(World.setCell _ _ _).cell? _=_;rw[World.cell?_setCell_far _ _ _ _ n1,World.cell?_setCell_far _ _ _ _ n1];exact pi
 have k4:W1.cell? ⟨aj,6,none⟩=some (.int .i64 j):=by rw[vP];show(World.setCell _ _ _).cell? _=_;rw[World.cell?_setCell_far _ _ _ _ n2,World.cell?_setCell_far _ _ _ _ n2];exact pj
 have l1:W1.frozen? ⟨gb,off+i,none⟩=false:=by rw[vP];show(World.setCell _ _ _).frozen? _=_;simpa using fi
 have l3:W1.frozen? ⟨ai,6,none⟩=false:=by rw[vP];show(World.setCell _ _ _).frozen? _=_;simpa using fpi
 have l4:W1.frozen? ⟨aj,6,none⟩=false:=by rw[vP];show(World.setCell _ _ _).frozen? _=_;simpa using fpj
 have m1:(W1.setCell ⟨aj,6,none⟩ (.int .i64 i)).cell? ⟨gb,off+j,none⟩=some (.pointer (some ⟨ai,0,none⟩)):=by rw[World.cell?_setCell_far _ _ _ _ (Ne.symm n2)];exact k2
 have m2:(W1.setCell ⟨aj,6,none⟩ (.int .i64 i)).cell? ⟨ai,6,none⟩=some (.int .i64 i):=by rw[World.cell?_setCell_far _ _ _ _ (Ne.symm n3)];exact k3
 have HW:Hid (W1=((w.setCell ⟨gb,off+i,none⟩ (.pointer (some ⟨aj,0,none⟩))).setCell ⟨gb,off+j,none⟩ (.pointer (some ⟨ai,0,none⟩))).drew):=vP;go_enter func286,ntmps286;go_wp2
 go_region
 rw[<-vP];clear vP pi pj ci cj fi fj fpi fpj;go_wp2
 go_region
 all_goals (try go_wp2)
 all_goals go_end0
 all_goals refine⟨rfl, ?_⟩
 all_goals (rw[HW.out];exact HG.out 1 1)
variable{g:Gh}{hp bB:List At}{n x gb off cap n0:Nat}{cs:Array Value}{lv:Value}{w:World}{F:Ft}
def gy(x:Nat)(cs:Array Value)(g:Gh)(lv:Value)(hp:List At):aM:=aa (blk x (.cells cs 88 (0,0))) (Av g lv hp)
def xA(x:Nat):Value:= .iface 184 (.pointer (some ⟨x,11,none⟩))
structure Way(g:Gh)(hp:List At)(n:Nat)(bB:List At):Prop where
 perm:bB.Perm hp
 rest: ∀k,n<=k->bB[k]?=hp[k]?
theorem Way.refl(g:Gh)(hp:List At)(n:Nat):Way g hp n hp:=⟨List.Perm.refl _,fun _ _=>rfl⟩
theorem Way.len(h:Way g hp n bB):bB.length=hp.length:=h.perm.length_eq
theorem Way.swap(h:Way g hp n bB){i j:Nat}(hi:i<n)(hj:j<n)(hn:n<=hp.length):Way g hp n (Hp.swap bB i j):=by have hl:=h.len;refine⟨(Hp.swap_perm (by omega) (by omega)).trans h.perm,fun k hk=> ?_⟩;rw[Hp.uv (by omega) (by omega),if_neg (by omega),if_neg (by omega)];exact h.rest k hk
theorem Way.trans{ku:List At}(h:Way g hp n bB)(h':Way g bB n ku):Way g hp n ku:=⟨h'.perm.trans h.perm,fun k hk=>(h'.rest k hk).trans (h.rest k hk)⟩
theorem jX(h:(gy x cs g lv hp).holds w F)(hc:cs[11]?=some lv):w.cell? ⟨x,11,none⟩=some lv:=by have:=(dC h).1;simp only[World.cell?,this];exact hc
theorem Wn(h:(gy x cs g lv hp).holds w F): ∃G,(Av g lv hp).holds w G:=by obtain⟨G,H,ha,hb,_⟩:=h;exact⟨H,hb⟩
theorem KR(hn:hp.length=n0)(h:(gy x cs g (.slice (some ⟨gb,off,none⟩) n0 cap) hp).holds w F)(i j:Nat)(hi:i<hp.length)(hj:j<hp.length)(hl:hp.length<=16777216)(q:Nat):Calls prog 285 #[.slice (some ⟨gb,off,none⟩) n0 cap, .int .i64 i, .int .i64 j] (w.drewN q) fun e w'=>e= .returned (.bool (Sm g hp[i] hp[j]))∧ ∃q,w'=w.drewN q:=by subst hn;obtain⟨G,hG⟩:=Wn h;refine(Qi g gb off cap hp _ (Wl (cB hG q)) i j hi hj hl).mono ?_;rintro e w'⟨rfl,q',rfl⟩;exact⟨rfl,_,yl _ _ _⟩
theorem uw(hn:hp.length=n0)(h:(gy x cs g (.slice (some ⟨gb,off,none⟩) n0 cap) hp).holds w F)(i j:Nat)(hi:i<hp.length)(hj:j<hp.length)(cC:i≠j)(hl:hp.length<=16777216)(q:Nat):Calls prog 286 #[.slice (some ⟨gb,off,none⟩) n0 cap, .int .i64 i, .int .i64 j] (w.drewN q) fun e w'=>e= .returned (.tuple #[])∧Goes (gy x cs g (.slice (some ⟨gb,off,none⟩) n0 cap) (Hp.swap hp i j)) w F w':=by subst hn;unfold gy at h⊢;rw[cA]at h⊢;exact(jD (cB h q) fun G hG=>swap_any g gb off cap hp _ G hG i j hi hj cC hl).mono (fun e w' ⟨h1,h2⟩=>⟨h1,eT h2⟩)
theorem UY{k:Nat}(h:0<k):((k:Int)-1).tdiv 2=((Hp.par k:Nat):Int):=by
 have:((k:Int)-1)=((k-1:Nat):Int):=by omega
 rw[this];rfl
theorem JK(x:Nat)(cs:Array Value)(g:Gh)(gb off cap n0:Nat)(hp:List At)(N j:Nat)(w:World)(F:Ft)(Mj:hp.length=n0)(hc:cs[11]?=some (.slice (some ⟨gb,off,none⟩) n0 cap))(h:(gy x cs g (.slice (some ⟨gb,off,none⟩) n0 cap) hp).holds w F)(hN:N<=hp.length)(hj:j<N)(hu:Hp.Om (gH g) hp N j)(hl:hp.length<=16777216):Calls prog 160 #[xA x, .int .i64 j] w fun e w'=>e= .returned (.tuple #[])∧ ∃bB,Way g hp N bB∧Hp.Heap (gH g) bB N∧Goes (gy x cs g (.slice (some ⟨gb,off,none⟩) n0 cap) bB) w F w':=by
 unfold xA;have abY:=enters_of func285 (by kernel_rfl) rfl;have aak:=enters_of func286 (by kernel_rfl) rfl;go_enter func160,ntmps160;go_wp2;go_loopw [1] (fun jv wr=> ∃k:Nat,jv= .int .i64 k∧k<N∧ ∃bB,Hid (Way g hp N bB∧Hp.Om (gH g) bB N k∧Goes (gy x cs g (.slice (some ⟨gb,off,none⟩) n0 cap) bB) w F wr)) (fun jv _=>(intOf jv).toNat)
 case atStart=>exact⟨j,rfl,hj,hp,⟨Way.refl g hp N,hu,Goes.refl h⟩⟩
 case round=>
  obtain⟨k,rfl,hk,bB,H⟩:=hrel;obtain⟨qd,Ao,F1,cd,o1,n1⟩:=H.out;have hlen:=qd.len;have HD:Hid (∀(hh:Hp.Heap (gH g) bB N) (q:Nat),∃bB,Way g hp N bB∧Hp.Heap (gH g) bB N∧Goes (gy x cs g (.slice (some ⟨gb,off,none⟩) n0 cap) bB) w F (wr.drewN q)):=fun hh q=>⟨bB,qd,hh,(H.out.2.2).drewN q⟩;rcases Nat.eq_zero_or_pos k with hz|j7
  ·subst hz;have HE:=HD.out (Ao.heap (fun h=>absurd h (by omega))) 0;have HE':Hid (∃bB,Way g hp N bB∧Hp.Heap (gH g) bB N∧Goes (gy x cs g (.slice (some ⟨gb,off,none⟩) n0 cap) bB) w F wr):=HE;clear HE HD cd Ao qd o1 n1 H h hu;go_wp2;go_end0;exact⟨rfl,HE'.out⟩
  ·obtain⟨p,j6⟩: ∃p,p=Hp.par k:=⟨_,rfl⟩;have Ej:p<k:=by rw[j6];exact Hp.gj j7
   have hdiv:((k:Int)-1).tdiv 2=(p:Int):=by rw[j6];exact UY j7
   have hmL:=jc ze wr x _ (jX cd hc);have hmS: ∀q,_:=fun q=>jc zf (wr.drewN q) x _ (jX (cB cd q) hc);have adR:(p==k)=false:=by simpa using(by omega:p≠k)
   have HL:=KR (by omega:bB.length=n0) cd k p (by omega) (by omega) (by omega) 0;have Hi:Hid (p=Hp.par k):=j6;have XH:bB[k]?=some (bB[k]'(by omega)):=a7 (by omega);have hgp:bB[p]?=some (bB[p]'(by omega)):=a7 (by omega);cases hq:Sm g (bB[k]'(by omega)) (bB[p]'(by omega))
   ·rw[hq]at HL;have HE:Hid (∀q,∃bB,Way g hp N bB∧Hp.Heap (gH g) bB N∧Goes (gy x cs g (.slice (some ⟨gb,off,none⟩) n0 cap) bB) w F (wr.drewN q)):=fun q=>HD.out (Ao.heap (fun _ a b ha hb=>by
     rw[<-j6,hgp]at ha;rw[XH]at hb;cases ha;cases hb;exact tX hq)) q
    clear j6 HD cd Ao qd o1 n1 H h hu hq XH hgp;go_wp2_with (first|(go_at_call 285;go_must(refine HL.mono ?_;rintro e w1⟨rfl,q,rfl⟩)));go_end0;exact⟨rfl,HE.out _⟩
   ·rw[hq]at HL;have HS: ∀q,_:=fun q=>uw (by omega:bB.length=n0) cd p k (by omega) (by omega) (by omega) (by omega) q;have HN:Hid (∀w2,Goes (gy x cs g (.slice (some ⟨gb,off,none⟩) n0 cap) (Hp.swap bB p k)) wr F1 w2->Way g hp N (Hp.swap bB p k)∧Hp.Om (gH g) (Hp.swap bB p k) N p∧Goes (gy x cs g (.slice (some ⟨gb,off,none⟩) n0 cap) (Hp.swap bB p k)) w F w2):=fun w2 bK=>by
     refine⟨qd.swap (by omega) hk hN, ?_, ?_⟩
     ·rw[j6];exact Ao.step (kL g) (by omega) hk j7 (fun a b ha hb=>by rw[<-j6,hgp]at hb;rw[XH]at ha;cases ha;cases hb;exact yZ hq)
     ·obtain⟨F2,eX,o2,n2⟩:=bK;refine⟨F2,eX,o1.trans o2 (fun k hk hf=>(n1 k hf).elim id (fun h=>by omega)),fun k hk=> ?_⟩;rcases n2 k hk with h|h
      ·exact n1 k h
      ·exact .inr (aw o1.size h)
    clear j6 HD cd Ao qd o1 n1 H h hu hq XH hgp;go_wp2_with (first|(go_at_call 285;go_must(refine HL.mono ?_;rintro e w1⟨rfl,q,rfl⟩))|(go_at_call 286;go_must(refine(HS _).mono ?_;rintro e w2⟨rfl,bK⟩;have pn:=HN.out w2 bK;clear bK)));go_roundw
    case rel=>exact⟨p,by first|rfl|go_num,by omega,_,pn⟩
    case measure=>simp[intOf];omega
variable{g:Gh}{hp bB:List At}{N i0 i:Nat}
def Ld(g:Gh)(hp:List At)(N i0:Nat)(bB:List At)(i:Nat):Prop:=(i=i0∧bB=hp)∨(i0<i∧Hp.JS (gH g) bB N i)
theorem Ld.near(h:Ld g hp N i0 bB i)(hn:Hp.Near (gH g) hp N i0):Hp.Near (gH g) bB N i:=by
 rcases h with⟨rfl,rfl⟩|⟨_,h⟩
 ·exact hn
 ·exact h.toNear
def xQ(g:Gh)(hp:List At)(N i0:Nat)(bB:List At)(b:Bool):Prop:=Way g hp N bB∧(b=true->Hp.Heap (gH g) bB N)∧(b=false->bB=hp∧ ∀k,0<k->k<N->Hp.par k=i0->Hp.Edge (gH g) bB i0 k)
theorem Ld.stop(h:Ld g hp N i0 bB i)(hw:Way g hp N bB)(hb: ∀k,0<k->k<N->Hp.par k=i->Hp.Edge (gH g) bB i k):xQ g hp N i0 bB (decide (i0<i)):=by
 refine⟨hw,fun hd=> ?_,fun hd=> ?_⟩
 ·rcases h with⟨rfl,_⟩|⟨_,h⟩
  ·simp at hd
  ·exact h.heap hb
 ·rcases h with⟨rfl,h⟩|⟨h,_⟩
  ·exact⟨h,hb⟩
  ·simp[h]at hd
theorem aF{A:aM}{w w1 w2:World}{F F1:Ft}(o1:Only F w w1)(n1: ∀k,F1 k->F k∨w.heap.size<=k)(h:Goes A w1 F1 w2):Goes A w F w2:=by
 obtain⟨F2,eX,o2,n2⟩:=h;refine⟨F2,eX,o1.trans o2 (fun k hk hf=>(n1 k hf).elim id (fun h=>by omega)),fun k hk=> ?_⟩;rcases n2 k hk with h|h
 ·exact n1 k h
 ·exact .inr (aw o1.size h)
theorem mC{j:Nat}(hi:i<hp.length)(hj:j<hp.length)(h:gH g (hp[i]'hi) (hp[j]'hj)):Hp.Edge (gH g) hp i j:=by intro a b ha hb;rw[a7 hi]at ha;rw[a7 hj]at hb;cases ha;cases hb;exact h
theorem uW(g:Gh)(hp:List At)(i:Nat):Hp.Edge (gH g) hp i i:=by intro a b ha hb;rw[ha]at hb;cases hb;exact((kL g).total a a).elim id id
theorem Dx(x:Nat)(cs:Array Value)(g:Gh)(gb off cap n0:Nat)(hp:List At)(N i0:Nat)(w:World)(F:Ft)(Mj:hp.length=n0)(hc:cs[11]?=some (.slice (some ⟨gb,off,none⟩) n0 cap))(h:(gy x cs g (.slice (some ⟨gb,off,none⟩) n0 cap) hp).holds w F)(hN:N<=hp.length)(hi:i0<N)(hu:Hp.Near (gH g) hp N i0)(hl:hp.length<=16777216):Calls prog 164 #[xA x, .int .i64 i0, .int .i64 N] w fun e w'=> ∃b bB,e= .returned (.bool b)∧xQ g hp N i0 bB b∧Goes (gy x cs g (.slice (some ⟨gb,off,none⟩) n0 cap) bB) w F w':=by
 unfold xA;have abY:=enters_of func285 (by kernel_rfl) rfl;have aak:=enters_of func286 (by kernel_rfl) rfl;have HU:Hid (Hp.Near (gH g) hp N i0):=hu;clear hu;go_enter func164,ntmps164;go_wp2;go_loopw [7] (fun iv wr=> ∃i:Nat,iv= .int .i64 i∧i<N∧ ∃bB,Hid (Way g hp N bB∧Ld g hp N i0 bB i∧Goes (gy x cs g (.slice (some ⟨gb,off,none⟩) n0 cap) bB) w F wr)) (fun iv _=>N-(intOf iv).toNat)
 case atStart=>exact⟨i0,rfl,hi,hp,⟨Way.refl g hp N, .inl ⟨rfl,rfl⟩,Goes.refl h⟩⟩
 case round=>
  obtain⟨i,rfl,hk,bB,H⟩:=hrel;obtain⟨qd,rV,F1,cd,o1,n1⟩:=H.out;have hlen:=qd.len;have HD:Hid (∀(_: ∀k,0<k->k<N->Hp.par k=i->Hp.Edge (gH g) bB i k) (q:Nat),∃ku,xQ g hp N i0 ku (decide (i0<i))∧Goes (gy x cs g (.slice (some ⟨gb,off,none⟩) n0 cap) ku) w F (wr.drewN q)):=fun hb q=>⟨bB,rV.stop qd hb,H.out.2.2.drewN q⟩;have HN:Hid (∀j,0<j->j<N->Hp.par j=i->Hp.Edge (gH g) bB j i->(∀k,0<k->k<N->Hp.par k=i->Hp.Edge (gH g) bB j k)-> ∀w2,Goes (gy x cs g (.slice (some ⟨gb,off,none⟩) n0 cap) (Hp.swap bB i j)) wr F1 w2->Way g hp N (Hp.swap bB i j)∧Ld g hp N i0 (Hp.swap bB i j) j∧Goes (gy x cs g (.slice (some ⟨gb,off,none⟩) n0 cap) (Hp.swap bB i j)) w F w2):=fun j hj hjN BU he hm w2 bK=>by
   have ay:=Hp.gj hj;refine⟨qd.swap hk hjN hN, .inr ⟨?_,(rV.near HU.out).step (by omega) hjN BU hj he hm⟩,aF o1 n1 bK⟩;rcases rV with⟨rfl,_⟩|⟨h,_⟩
   ·omega
   ·omega
  have hmL: ∀q,_:=fun q=>jc ze (wr.drewN q) x _ (jX (cB cd q) hc);have acI:=jc ze wr x _ (jX cd hc);have hmS: ∀q,_:=fun q=>jc zf (wr.drewN q) x _ (jX (cB cd q) hc);by_cases h1:N<=2*i+1
  ·have HE:Hid (∃ku,xQ g hp N i0 ku (decide (i0<i))∧Goes (gy x cs g (.slice (some ⟨gb,off,none⟩) n0 cap) ku) w F wr):=HD.out (fun k hk TV j6=>by unfold Hp.par at j6;omega) 0;clear HD HN cd rV qd o1 n1 H h hmL acI hmS;have qb:((N:Nat):Int)<=2*(i:Int)+1:=by omega
   go_wp2;go_ret;obtain⟨ku,h1,h2⟩:=HE.out;exact⟨_,ku,by first|rfl|(congr 2;simp),h1,h2⟩
  ·obtain⟨j1,TU⟩: ∃j1,j1=2*i+1:=⟨_,rfl⟩;obtain⟨j2,Zk⟩: ∃j2,j2=j1+1:=⟨_,rfl⟩;have a1:2*(i:Int)+1=(j1:Int):=by omega
   have a2:(j1:Int)+1=(j2:Int):=by omega
   have b1:j1<N:=by omega
   have b3:0<=(j1:Int):=by omega
   have b4:N<=n0:=by omega
   clear h1;obtain⟨LT,H9⟩: ∃f:Nat->Nat->Bool,∀a b (ha:a<bB.length) (hb:b<bB.length),f a b=Sm g (bB[a]'ha) (bB[b]'hb):=
    ⟨fun a b=>if h:a<bB.length∧b<bB.length then Sm g (bB[a]'h.1) (bB[b]'h.2)else false,fun a b ha hb=>dif_pos ⟨ha,hb⟩⟩
   have WE: ∀a b:Nat,a<n0->b<n0-> ∀q:Nat,Calls prog 285 #[.slice (some ⟨gb,off,none⟩) n0 cap, .int .i64 a, .int .i64 b] (wr.drewN q) fun e w'=>e= .returned (.bool (LT a b))∧ ∃q,w'=wr.drewN q:=fun a b ha hb q=>by rw[H9 a b (by omega) (by omega)];exact KR (by omega) cd a b (by omega) (by omega) (by omega) q
   have C5: ∀a b:Nat,a<n0->b<n0->Calls prog 285 #[.slice (some ⟨gb,off,none⟩) n0 cap, .int .i64 a, .int .i64 b] wr fun e w'=>e= .returned (.bool (LT a b))∧ ∃q,w'=wr.drewN q:=fun a b ha hb=>WE a b ha hb 0;by_cases h2:j2<N
   ·cases ng:LT j2 j1
    ·have hm: ∀k,0<k->k<N->Hp.par k=i->Hp.Edge (gH g) bB j1 k:=fun k h0 TV j6=>by
      have:k=j1∨k=j2:=by unfold Hp.par at j6;omega
      rcases this with rfl|rfl
      ·exact uW g _ _
      ·exact mC (by omega) (by omega) (tX ((H9 _ _ _ _).symm.trans ng))
     cases qN:LT j1 i
     ·have HE:Hid (∀q,∃ku,xQ g hp N i0 ku (decide (i0<i))∧Goes (gy x cs g (.slice (some ⟨gb,off,none⟩) n0 cap) ku) w F (wr.drewN q)):=fun q=>HD.out (fun k h0 TV j6=>Hp.Edge.trans (kL g) (by omega) (mC (by omega) (by omega) (tX ((H9 _ _ _ _).symm.trans qN))) (hm k h0 TV j6)) q;clear HD HN cd rV qd o1 n1 H h hm TU Zk H9;go_wp2_with (first|(go_at_call 285;first|(refine(WE _ _ (by omega) (by omega) _).mono ?_;rintro e w1⟨rfl,q,rfl⟩)|(refine(C5 _ _ (by omega) (by omega)).mono ?_;rintro e w1⟨rfl,q,rfl⟩)));go_ret;obtain⟨ku,h1,h2⟩:=HE.out _;exact⟨_,ku,by first|rfl|(congr 2;simp),h1,h2⟩
     ·have HS: ∀q,_:=fun q=>uw (by omega:bB.length=n0) cd i j1 (by omega) (by omega) (by omega) (by omega) q;have ZX:Hid _:=HN.out j1 (by omega) (by omega) (by unfold Hp.par;omega) (mC (by omega) (by omega) (yZ ((H9 _ _ _ _).symm.trans qN))) hm;have ay:i<j1∧j1<N:=by omega
      clear HD HN cd rV qd o1 n1 H h hm TU Zk H9;go_wp2_with (first|(go_at_call 285;first|(refine(WE _ _ (by omega) (by omega) _).mono ?_;rintro e w1⟨rfl,q,rfl⟩)|(refine(C5 _ _ (by omega) (by omega)).mono ?_;rintro e w1⟨rfl,q,rfl⟩))|(go_at_call 286;go_must(refine(HS _).mono ?_;rintro e w2⟨rfl,bK⟩;have pn:=ZX.out w2 bK;clear bK)));go_roundw
      case rel=>exact⟨j1,by first|rfl|go_num,ay.2,_,pn⟩
      case measure=>simp[intOf];omega
    ·have hm: ∀k,0<k->k<N->Hp.par k=i->Hp.Edge (gH g) bB j2 k:=fun k h0 TV j6=>by
      have:k=j1∨k=j2:=by unfold Hp.par at j6;omega
      rcases this with rfl|rfl
      ·exact mC (by omega) (by omega) (yZ ((H9 _ _ _ _).symm.trans ng))
      ·exact uW g _ _
     cases qN:LT j2 i
     ·have HE:Hid (∀q,∃ku,xQ g hp N i0 ku (decide (i0<i))∧Goes (gy x cs g (.slice (some ⟨gb,off,none⟩) n0 cap) ku) w F (wr.drewN q)):=fun q=>HD.out (fun k h0 TV j6=>Hp.Edge.trans (kL g) (by omega) (mC (by omega) (by omega) (tX ((H9 _ _ _ _).symm.trans qN))) (hm k h0 TV j6)) q;clear HD HN cd rV qd o1 n1 H h hm TU Zk H9;go_wp2_with (first|(go_at_call 285;first|(refine(WE _ _ (by omega) (by omega) _).mono ?_;rintro e w1⟨rfl,q,rfl⟩)|(refine(C5 _ _ (by omega) (by omega)).mono ?_;rintro e w1⟨rfl,q,rfl⟩)));go_ret;obtain⟨ku,h1,h2⟩:=HE.out _;exact⟨_,ku,by first|rfl|(congr 2;simp),h1,h2⟩
     ·have HS: ∀q,_:=fun q=>uw (by omega:bB.length=n0) cd i j2 (by omega) (by omega) (by omega) (by omega) q;have ZX:Hid _:=HN.out j2 (by omega) (by omega) (by unfold Hp.par;omega) (mC (by omega) (by omega) (yZ ((H9 _ _ _ _).symm.trans qN))) hm;have ay:i<j2∧j2<N:=by omega
      clear HD HN cd rV qd o1 n1 H h hm TU Zk H9;go_wp2_with (first|(go_at_call 285;first|(refine(WE _ _ (by omega) (by omega) _).mono ?_;rintro e w1⟨rfl,q,rfl⟩)|(refine(C5 _ _ (by omega) (by omega)).mono ?_;rintro e w1⟨rfl,q,rfl⟩))|(go_at_call 286;go_must(refine(HS _).mono ?_;rintro e w2⟨rfl,bK⟩;have pn:=ZX.out w2 bK;clear bK)));go_roundw
      case rel=>exact⟨j2,by first|rfl|go_num,ay.2,_,pn⟩
      case measure=>simp[intOf];omega
   ·have hm: ∀k,0<k->k<N->Hp.par k=i->Hp.Edge (gH g) bB j1 k:=fun k h0 TV j6=>by
     have:k=j1:=by unfold Hp.par at j6;omega
     rw[this];exact uW g _ _
    cases qN:LT j1 i
    ·have HE:Hid (∀q,∃ku,xQ g hp N i0 ku (decide (i0<i))∧Goes (gy x cs g (.slice (some ⟨gb,off,none⟩) n0 cap) ku) w F (wr.drewN q)):=fun q=>HD.out (fun k h0 TV j6=>Hp.Edge.trans (kL g) (by omega) (mC (by omega) (by omega) (tX ((H9 _ _ _ _).symm.trans qN))) (hm k h0 TV j6)) q;clear HD HN cd rV qd o1 n1 H h hm TU Zk H9;go_wp2_with (first|(go_at_call 285;first|(refine(WE _ _ (by omega) (by omega) _).mono ?_;rintro e w1⟨rfl,q,rfl⟩)|(refine(C5 _ _ (by omega) (by omega)).mono ?_;rintro e w1⟨rfl,q,rfl⟩)));go_ret;obtain⟨ku,h1,h2⟩:=HE.out _;exact⟨_,ku,by first|rfl|(congr 2;simp),h1,h2⟩
    ·have HS: ∀q,_:=fun q=>uw (by omega:bB.length=n0) cd i j1 (by omega) (by omega) (by omega) (by omega) q;have ZX:Hid _:=HN.out j1 (by omega) (by omega) (by unfold Hp.par;omega) (mC (by omega) (by omega) (yZ ((H9 _ _ _ _).symm.trans qN))) hm;have ay:i<j1∧j1<N:=by omega
     clear HD HN cd rV qd o1 n1 H h hm TU Zk H9;go_wp2_with (first|(go_at_call 285;first|(refine(WE _ _ (by omega) (by omega) _).mono ?_;rintro e w1⟨rfl,q,rfl⟩)|(refine(C5 _ _ (by omega) (by omega)).mono ?_;rintro e w1⟨rfl,q,rfl⟩))|(go_at_call 286;go_must(refine(HS _).mono ?_;rintro e w2⟨rfl,bK⟩;have pn:=ZX.out w2 bK;clear bK)));go_roundw
     case rel=>exact⟨j1,by first|rfl|go_num,ay.2,_,pn⟩
     case measure=>simp[intOf];omega
