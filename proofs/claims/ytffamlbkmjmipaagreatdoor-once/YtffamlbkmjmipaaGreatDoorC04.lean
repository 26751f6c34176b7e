import Derived.Test.YtffamlbkmjmipaaGreatDoorC03
import Derived.OwnWalk
import Derived.Deep.DeepMust
import Derived.Deep.RegionHeld
import Derived.Deep.RegionWith
import Derived.Deep.RegionLaw
import Derived.Shelf.Abstract
import Derived.LaidEqlPtr
set_option maxHeartbeats 8000000
set_option maxRecDepth 100000
namespace Go.Proofs.YtffamlbkmjmipaaGreatDoor
open _root_.Go.Proofs.Tryz
namespace Pj
open Go.RowKit aJ Mc Go.Maps
def iW:Kd prog 3 Int where
 keyed:=int_keyed underlying3
 lk c:= .int .i64 c
 val c:= .int .i64 c
 ok c:=(Lit.int .i64 c).wf=true
 key c h:=keyOf_int_mk underlying3 h
 inj c d h:=by cases h;rfl
 lit _:=trivial
def bs(b:Bs):Value:= .string ⟨b.toArray⟩
def tI:Kd prog 9 Bs where
 keyed:=string_keyed underlying9
 lk c:= .string c
 val c:=bs c
 ok c:=c.length<=maxLen
 key c h:=by have:=WideMaps.keyOf_string_mk (P:=prog) underlying9 (s:=⟨c.toArray⟩) (by simpa[ByteArray.size]using h);simpa[bs]using this
 inj c d h:=by cases h;rfl
 lit _:=trivial
def mr(g:Gh)(a:At)(k:Nat):Array Value:= #[.int .i64 a.n,pt (g.rp a.id), .int .i64 a.conn, .int .i64 (g.sr (key a)), .int .i64 a.sY, .int .i64 a.fx, .int .i64 k]
def fH(g:Gh)(a:At)(k:Nat):aJ:=blk (g.ap (key a)) (.cells (mr g a k) 126 (0,0))
def ot(g:Gh)(re:Int)(q:Rq)(av:Value):Array Value:= #[.int .i64 q.id, .int .i64 q.conn,pt (g.tp q.ten),bs q.txt, .int .i64 q.n, .int .i64 (re-q.left), .bool q.hedged,av]
def kd(g:Gh)(re:Int)(q:Rq)(av:Value):aJ:=blk (g.rp q.id) (.cells (ot g re q av) 132 (0,0))
def jh(g:Gh)(av:Value)(id:Int)(al:List Int):aJ:=rowA 127 1 av al.length (al.map fun n=>pt (g.ap (id,n)))
def fc(g:Gh)(re:Int)(r:Rr):aJ:=ex fun av=>aa (kd g re r.q av) (jh g av r.q.id r.al)
def Hw(t:Tr)(wv:Value):Array Value:= #[bs t.nm,wv, .int .i64 t.rn]
def kC(g:Gh)(t:Tr)(wv:Value):aJ:=blk (g.tp t.nm) (.cells (Hw t wv) 92 (0,0))
def jH(g:Gh)(wv:Value)(wt:List Int):aJ:=rowA 124 1 wv wt.length (wt.map fun i=>pt (g.rp i))
def fD(g:Gh)(t:Tr):aJ:=ex fun wv=>aa (kC g t wv) (jH g wv t.wt)
def byV(b:UInt8):Value:= .int .u8 b.toNat
def Dn(p:Nat)(dr:Bool)(kv:Value):aJ:=blk p (.cells #[kv, .bool dr] 107 (0,0))
def abg(e:TypeId)(v:Value)(n:Nat)(xs:List Value):aJ where
 holds w F:=w.ownsRow 0 e 1 v n xs∧ ∀k,F k↔v.ownBlock=some k
 lt h k hk:=by
  obtain⟨h,hF⟩:=h;have hv:=(hF k).1 hk;rcases h.2 with⟨h1,_⟩|⟨g,cap,cur,h1,_,hg,_⟩
  ·rw[h1]at hv;cases hv
  ·rw[h1]at hv;cases hv;exact(cC.1 hg).1
 keep h hk:=by
  obtain⟨h,hF⟩:=h;refine⟨⟨h.1, ?_⟩,hF⟩;rcases h.2 with h1|⟨g,cap,cur,h1,hb,hg,h2⟩
  ·exact .inl h1
  ·exact .inr ⟨g,cap,cur,h1,hb,(hk g ((hF g).2 (by rw[h1];rfl))).trans hg,h2⟩
def I9(kv:Value)(b:Bs):aJ:=abg 5 kv b.length (b.map byV)
def gM(k:Kn):aJ:=ex fun kv=>aa (Dn k.p k.dr kv) (I9 kv k.kept)
def dL(g:Gh)(rv:Value)(ring:List Bs):aJ:=rowA 89 1 rv ring.length (ring.map fun t=>pt (g.tp t))
def gN(pv:Value)(pull:List Int):aJ:=rowA 3 1 pv pull.length (pull.map fun c=> .int .i64 c)
def dh(g:Gh)(lv:Value)(hp:List At):aJ:=rowA 127 1 lv hp.length (hp.map fun a=>pt (g.ap (key a)))
structure Dv where
 cm:Nat
 rm:Nat
 tm:Nat
 rv:Value
 pv:Value
 lv:Value
def yY(j:Js)(v:Dv):Array Value:= #[.int .i64 j.c.le, .int .i64 j.c.re, .int .i64 j.c.ca, .int .i64 j.c.bo, .int .i64 j.c.he, .int .i64 j.now, .map (some v.cm), .map (some v.rm), .map (some v.tm),v.rv,v.pv,v.lv, .int .i64 j.begun]
def dB(x:Nat)(j:Js)(v:Dv):aJ:=blk x (.cells (yY j v) 88 (0,0))
def iU(b:Nat)(l:List Kn):aJ:=mapA iW b (l.map fun k=>(k.n,k.p))
def ib(g:Gh)(b:Nat)(l:List Rr):aJ:=mapA iW b (l.map fun r=>(r.q.id,g.rp r.q.id))
def gK(g:Gh)(b:Nat)(l:List Tr):aJ:=mapA tI b (l.map fun t=>(t.nm,g.tp t.nm))
def hpA(g:Gh)(hp:List At):aJ:=all (fun x:At×Nat=>fH g x.1 x.2) hp.zipIdx
def aW(x:Nat)(g:Gh)(j:Js)(v:Dv):aJ:=
 aa (dB x j v) (aa (iU v.cm j.bu) (aa (ib g v.rm j.reqs) (aa (gK g v.tm j.aQ) (aa (all gM j.bu) (aa (all (fc g j.c.re) j.reqs) (aa (all (fD g) j.aQ) (aa (dL g v.rv j.ring) (aa (gN v.pv j.pull) (aa (dh g v.lv j.hp) (hpA g j.hp))))))))))
def jA(x:Nat)(g:Gh)(j:Js):aJ:=ex fun v=>aW x g j v
end Pj
namespace Pj
open Go.RowKit aJ Mc
variable{name:String}{f:FuncId}
theorem Bv:(prog.info? 184).map (fun i=>(i.methods.find? (·.name== "Len")).map fun m=>(m.path,m.func))=some (some (#[],some (284,false))):=by kernel_rfl
theorem yw:(prog.info? 184).map (fun i=>(i.methods.find? (·.name== "Less")).map fun m=>(m.path,m.func))=some (some (#[],some (285,false))):=by kernel_rfl
theorem yx:(prog.info? 184).map (fun i=>(i.methods.find? (·.name== "Swap")).map fun m=>(m.path,m.func))=some (some (#[],some (286,false))):=by kernel_rfl
theorem P7:(prog.info? 184).map (fun i=>(i.methods.find? (·.name== "Push")).map fun m=>(m.path,m.func))=some (some (#[],some (288,true))):=by kernel_rfl
theorem Th:(prog.info? 184).map (fun i=>(i.methods.find? (·.name== "Pop")).map fun m=>(m.path,m.func))=some (some (#[],some (287,true))):=by kernel_rfl
theorem yy{b:Bool}(h:(prog.info? 184).map (fun i=>(i.methods.find? (·.name==name)).map fun m=>(m.path,m.func))=some (some (#[],some (f,b)))): ∃i m,prog.info? 184=some i∧i.methods.find? (·.name==name)=some m∧m.path= #[]∧m.func=some (f,b):=by
 cases hi:prog.info? 184 with
 |none=>rw[hi]at h;cases h
 |some i=>
  rw[hi]at h;cases hm:i.methods.find? (·.name==name)with
  |none=>simp[hm]at h
  |some m=>simp[hm]at h;exact⟨i,m,rfl,hm,h.1,h.2⟩
theorem Ua(w:World)(t:TypeId)(a:Addr)(s m:String):(Builtin.ssaWrapNilChk_ #[t] t #[.pointer (some a),strVal s,strVal m]).run prog w= .ok (.pointer (some a)) w:=rfl
theorem gF(h:(prog.info? 184).map (fun i=>(i.methods.find? (·.name==name)).map fun m=>(m.path,m.func))=some (some (#[],some (f,false))))(w:World)(x:Nat)(lv:Value)(hc:w.cell? ⟨x,11,none⟩=some lv):(method 429 184 (.pointer (some ⟨x,11,none⟩)) name).run prog w= .ok (f,lv) w:=by obtain⟨i,m,h1,h2,h3,h4⟩:=yy h;unfold method;simp[typeInfo,h1,h2,h3,h4,follow,receiverAt,Place.get,Ua,asAddr,go_sem,hc]
theorem DG(h:(prog.info? 184).map (fun i=>(i.methods.find? (·.name==name)).map fun m=>(m.path,m.func))=some (some (#[],some (f,true))))(w:World)(x:Nat):(method 429 184 (.pointer (some ⟨x,11,none⟩)) name).run prog w= .ok (f, .pointer (some ⟨x,11,none⟩)) w:=by obtain⟨i,m,h1,h2,h3,h4⟩:=yy h;unfold method;simp[typeInfo,h1,h2,h3,h4,follow,receiverAt,Place.get,go_sem]
variable{w w':World}{F:Ft}
section
variable{α κ:Type} [DecidableEq κ]{A:α->aJ}
theorem RR{k:α->κ}{c:κ}{f:α->α}{l:List α}:all A (upd k c f (l.filter fun y=>decide (k y≠c)))=all A (l.filter fun y=>decide (k y≠c)):=by
 have:upd k c f (l.filter fun y=>decide (k y≠c))=l.filter fun y=>decide (k y≠c):=by
  unfold upd;refine(bz fun x hx=> ?_).trans (List.map_id _);have:k x≠c:=by simpa using(aL.1 hx).2
  rw[if_neg this];rfl
 rw[this]
theorem DX{k:α->κ}{l:List α}(hn:(l.map k).Nodup){x:α}(hx:x∈l):l.Perm (x::l.filter fun y=>decide (k y≠k x)):=by
 induction l with
 |nil=>cases hx
 |cons y l ih=>
  rw[List.map_cons,List.nodup_cons]at hn;rcases List.mem_cons.1 hx with e|e
  ·subst e;rw[List.filter_cons_of_neg (by simp)];have:l.filter (fun y=>decide (k y≠k x))=l:=List.filter_eq_self.2 fun z hz=>by
    have:k z≠k x:=fun e=>hn.1 (az.2 ⟨z,hz,e⟩);simpa using this
   rw[this]
  ·have cA:k y≠k x:=fun e'=>hn.1 (az.2 ⟨x,e,e'.symm⟩);rw[List.filter_cons_of_pos (by simpa using cA)];exact((ih hn.2 e).cons y).trans (List.Perm.swap _ _ _)
theorem ki{k:α->κ}{l:List α}(hn:(l.map k).Nodup){x:α}(hx:x∈l):all A l=aa (A x) (all A (l.filter fun y=>decide (k y≠k x))):=Ch A (DX hn hx)
theorem Ig{k:α->κ}{l:List α}(hn:(l.map k).Nodup){x:α}(hx:x∈l)(f:α->α):all A (upd k (k x) f l)=aa (A (f x)) (all A (l.filter fun y=>decide (k y≠k x))):=by have hp:=(DX hn hx).map (fun y=>if k y=k x then f y else y);rw[List.map_cons,if_pos rfl]at hp;have:=Ch A hp;rw[show upd k (k x) f l=l.map (fun y=>if k y=k x then f y else y)from rfl,this];show aa (A (f x)) (all A (upd k (k x) f (l.filter fun y=>decide (k y≠k x))))=_;rw[RR]
end
section
variable{α:Type}{A:α->aJ}
theorem vh: ∀{l:List α} {i:Nat},i<l.length-> ∀u,all A (l.set i u)=aa (A u) (all A (l.eraseIdx i))
 | [],i,h,_=>by simp at h
 |x::l,0,_,u=>rfl
 |x::l,i+1,h,u=>by show aa (A x) (all A (l.set i u))=aa (A u) (aa (A x) (all A (l.eraseIdx i)));rw[vh (by simpa using h),cD]
theorem AL{l:List α}{i:Nat}(h:i<l.length):all A l=aa (A l[i]) (all A (l.eraseIdx i)):=by have:=vh (A:=A) h l[i];rwa[List.set_getElem_self]at this
theorem AP: ∀{l:List α} {i j:Nat},i<j->j<l.length-> ∃R:aJ,∀u v,all A ((l.set i u).set j v)=aa (A u) (aa (A v) R)
 | [],_,_,_,h=>by simp at h
 |x::l,0,j+1,_,h=>⟨all A (l.eraseIdx j),fun u v=>by show aa (A u) (all A (l.set j v))=_;rw[vh (by simpa using h)]⟩
 |x::l,i+1,j+1,h1,h2=>by
  obtain⟨R,hR⟩:=AP (l:=l) (i:=i) (j:=j) (by omega) (by simpa using h2);refine⟨aa (A x) R,fun u v=> ?_⟩;show aa (A x) (all A ((l.set i u).set j v))=_;rw[hR u v]
  ac_rfl
theorem Cg{l:List α}{i j:Nat}(hi:i<l.length)(hj:j<l.length)(cA:i≠j): ∃R:aJ,all A l=aa (A l[i]) (aa (A l[j]) R)∧ ∀u v,all A ((l.set i u).set j v)=aa (A u) (aa (A v) R):=by
 rcases Nat.lt_or_gt_of_ne cA with h|h
 ·obtain⟨R,hR⟩:=AP (A:=A) h hj;refine⟨R, ?_,hR⟩;have:=hR l[i] l[j];simpa using this
 ·obtain⟨R,hR⟩:=AP (A:=A) h hi;refine⟨R, ?_,fun u v=> ?_⟩
  ·have:=hR l[j] l[i];simp at this;rw[this,cD]
  ·rw[List.set_comm _ _ cA,hR v u,cD]
end
theorem aO{A' B:aJ}{G H:Ft}(hb:B.holds w H)(h:Goes A' w G w')(d: ∀k,G k-> ¬H k)(e: ∀k,F k↔G k∨H k):Goes (aa A' B) w F w':=by
 obtain⟨G',ha',o,n⟩:=h;have aN:=B.lt hb;refine⟨fun k=>G' k∨H k,⟨G',H,ha',B.keep hb (fun k hk=>o.block k (aN k hk) (fun hg=>d k hg hk)),fun k hk hh=> ?_,fun k=>Iff.rfl⟩,o.mono (fun k _ hk=>(e k).2 (.inl hk)),fun k hk=> ?_⟩
 ·rcases n k hk with h|h
  ·exact d k h hh
  ·have:=aN k hh;omega
 ·rcases hk with hk|hk
  ·rcases n k hk with h|h
   ·exact .inl ((e k).2 (.inl h))
   ·exact .inr h
  ·exact .inl ((e k).2 (.inr hk))
theorem gR{P:Program}{f:FuncId}{args:Array Value}{A A' B:aJ}{v:Ending}(h:(aa A B).holds w F)(c: ∀G,A.holds w G->Calls P f args w fun e w'=>e=v∧Goes A' w G w'):Calls P f args w fun e w'=>e=v∧Goes (aa A' B) w F w':=by obtain⟨G,H,ha,hb,d,e⟩:=h;refine(c G ha).mono ?_;rintro e' w'⟨h1,h2⟩;exact⟨h1,aO hb h2 d e⟩
theorem df{A':aJ}{q:Nat}(h:Goes A' (w.drewN q) F w'):Goes A' w F w':=by obtain⟨F',h1,o,n⟩:=h;exact⟨F',h1,⟨o.os,o.tape,o.output,o.size,o.block⟩,n⟩
theorem bI{A:aJ}(h:A.holds w F)(q:Nat):A.holds (w.drewN q) F:=A.keep h (fun _ _=>rfl)
variable{g:Gh}{a b:At}{w:World}{gb off cap:Nat}{hp:List At}
theorem vZ(w:World)(a b:Nat):(w.drewN a).drewN b=w.drewN (a+b):=by simp[World.drewN,Nat.add_assoc]
def Rt(g:Gh)(a b:At):Bool:=if a.fx=b.fx then decide (g.sr (key a)<g.sr (key b))else decide (a.fx<b.fx)
theorem yo(h:Rt g a b=true):fJ g a b:=by
 unfold Rt at h;unfold fJ;split at h
 ·have:g.sr (key a)<g.sr (key b):=by simpa using h
  omega
 ·have:a.fx<b.fx:=by simpa using h
  omega
theorem rQ(h:Rt g a b=false):fJ g b a:=by
 unfold Rt at h;unfold fJ;split at h
 ·have: ¬g.sr (key a)<g.sr (key b):=by simpa using h
  omega
 ·have: ¬a.fx<b.fx:=by simpa using h
  omega
theorem ae(w:World)(n:Nat)(a:Addr)(v:Value):(w.drewN n).setCell a v=(w.setCell a v).drewN n:=rfl
theorem ag(w:World)(n:Nat)(o:Obj):(w.drewN n).alloc o=(w.alloc o).drewN n:=rfl
structure LF(w:World)(g:Gh)(gb off cap:Nat)(hp:List At):Prop where
 cell: ∀i (h:i<hp.length),w.cell? ⟨gb,off+i,none⟩=some (.pointer (some ⟨g.ap (key hp[i]),0,none⟩))
 YV: ∀i,w.frozen? ⟨gb,i,none⟩=false
 bF: ∀i (h:i<hp.length),w.heap[g.ap (key hp[i])]?=some (.cells (mr g hp[i] i) 126 (0,0))
theorem LF.at'(h:LF w g gb off cap hp)(i:Nat)(hi:i<hp.length)(j:Nat):w.cell? ⟨g.ap (key hp[i]),j,none⟩=(mr g hp[i] i)[j]?:=by simp only[World.cell?,h.bF i hi];rfl
theorem LF.atf(h:LF w g gb off cap hp)(i:Nat)(hi:i<hp.length)(j:Nat):w.frozen? ⟨g.ap (key hp[i]),j,none⟩=false:=by simp only[World.frozen?,h.bF i hi];simp
theorem PX(g:Gh)(gb off cap:Nat)(hp:List At)(w:World)(h:LF w g gb off cap hp)(i j:Nat)(hi:i<hp.length)(hj:j<hp.length)(_hl:hp.length<=16777216):Calls prog 285 #[.slice (some ⟨gb,off,none⟩) hp.length cap, .int .i64 i, .int .i64 j] w fun e w'=>e= .returned (.bool (Rt g hp[i] hp[j]))∧ ∃q,w'=w.drewN q:=by
 have ci:=h.cell i hi;have cj:=h.cell j hj;have ti:w.cell? ⟨g.ap (key hp[i]),5,none⟩=some (.int .i64 hp[i].fx):=h.at' i hi 5;have tj:w.cell? ⟨g.ap (key hp[j]),5,none⟩=some (.int .i64 hp[j].fx):=h.at' j hj 5;have si:w.cell? ⟨g.ap (key hp[i]),3,none⟩=some (.int .i64 (g.sr (key hp[i]))):=h.at' i hi 3;have sj:w.cell? ⟨g.ap (key hp[j]),3,none⟩=some (.int .i64 (g.sr (key hp[j]))):=h.at' j hj 3;unfold Rt;clear h;generalize hp[i].fx=tli at*;generalize hp[j].fx=tlj at*;generalize g.sr (key hp[i])=sri at*;generalize g.sr (key hp[j])=srj at*;generalize g.ap (key hp[i])=ai at*;generalize g.ap (key hp[j])=aj at*;generalize hp.length=n at*;cases hq:(tli==tlj)
 ·have e: ¬tli=tlj:=by simpa using hq
  rw[if_neg e];go_enter func285,ntmps285;go_wp2
  go_quiet (fail)
  go_wp2
  go_quiet (fail)
  go_wp2;go_ret;exact⟨rfl,_,vZ _ _ _⟩
 ·have e:tli=tlj:=by simpa using hq
  rw[if_pos e];go_enter func285,ntmps285;go_wp2
  go_quiet (fail)
  go_wp2
  go_quiet (fail)
  go_wp2;go_ret;exact⟨rfl,_,vZ _ _ _⟩
end Pj
namespace Pj
open Go.RowKit aJ Mc
attribute [local go_sem] ae
variable{g:Gh}{gb off cap i j:Nat}{hp:List At}{w:World}{F:Ft}
def zB(g:Gh)(lv:Value)(hp:List At):aJ:=aa (dh g lv hp) (hpA g hp)
theorem UR(h:(zB g (.slice (some ⟨gb,off,none⟩) hp.length cap) hp).holds w F):LF w g gb off cap hp:=by
 obtain⟨G,H,ha,hb,d,e⟩:=h;refine⟨fun i hi=> ?_,fun i=>dw ha i,fun i hi=> ?_⟩
 ·rw[bf ha i (by omega),List.getElem?_map,aY hi];rfl
 ·have hz:i<hp.zipIdx.length:=by simpa using hi
  unfold hpA at hb;rw[AL hz]at hb;have:=(cK hb).1;simpa using this
theorem Tc{lv:Value}(h:(zB g lv hp).holds w F): ∃ao cap,lv= .slice ao hp.length cap∧hp.length<=cap∧cap<=maxLen∧(0<hp.length-> ∃gb off,ao=some ⟨gb,off,none⟩):=by obtain⟨G,H,ha,_⟩:=h;obtain⟨ao,cap,h1,h2,h3,h4,_⟩:=bX ha;exact⟨ao,cap,h1,h2,h3,fun hn=>by obtain⟨g,off,e,_⟩:=h4 hn;exact⟨g,off,e⟩⟩
theorem Rb{l:List At}(hi:i<l.length)(hj:j<l.length):(Hp.swap l i j).zipIdx=(l.zipIdx.set i (l[j],i)).set j (l[i],j):=by
 rw[Hp.swap_eq (aY hi) (aY hj)];apply List.ext_getElem?;intro k;rw[List.getElem?_zipIdx,List.getElem?_set,List.getElem?_set,List.getElem?_set,List.getElem?_set,List.getElem?_zipIdx];simp only[List.length_set,List.length_zipIdx,Nat.zero_add];by_cases e1:j=k
 ·subst e1;simp[hj]
 ·by_cases e2:i=k
  ·subst e2;simp[e1,hi]
  ·simp[e1,e2]
theorem Lq(h:(zB g (.slice (some ⟨gb,off,none⟩) hp.length cap) hp).holds w F)(hi:i<hp.length)(hj:j<hp.length)(cA:i≠j)(q q':Nat):Goes (zB g (.slice (some ⟨gb,off,none⟩) hp.length cap) (Hp.swap hp i j)) w F ((((((w.setCell ⟨gb,off+i,none⟩ (.pointer (some ⟨g.ap (key hp[j]),0,none⟩))).setCell ⟨gb,off+j,none⟩ (.pointer (some ⟨g.ap (key hp[i]),0,none⟩))).drewN q).setCell ⟨g.ap (key hp[j]),6,none⟩ (.int .i64 i)).setCell ⟨g.ap (key hp[i]),6,none⟩ (.int .i64 j)).drewN q'):=by
 have hz: ∀{k},k<hp.length->k<hp.zipIdx.length:=fun h=>by simpa using h
 obtain⟨R,hR1,hR2⟩:=Cg (A:=fun x:At×Nat=>fH g x.1 x.2) (hz hi) (hz hj) cA;have e1:zB g (.slice (some ⟨gb,off,none⟩) hp.length cap) hp=aa (dh g (.slice (some ⟨gb,off,none⟩) hp.length cap) hp) (aa (fH g hp[i] i) (aa (fH g hp[j] j) R)):=by unfold zB hpA;rw[hR1];simp
 have e2:zB g (.slice (some ⟨gb,off,none⟩) hp.length cap) (Hp.swap hp i j)=aa (dh g (.slice (some ⟨gb,off,none⟩) hp.length cap) (Hp.swap hp i j)) (aa (fH g hp[j] i) (aa (fH g hp[i] j) R)):=by unfold zB hpA;rw[Rb hi hj,hR2]
 rw[e1]at h;rw[e2];have s1:Goes (aa (dh g (.slice (some ⟨gb,off,none⟩) hp.length cap) (Hp.swap hp i j)) (aa (fH g hp[i] i) (aa (fH g hp[j] j) R))) w F
   ((w.setCell ⟨gb,off+i,none⟩ (.pointer (some ⟨g.ap (key hp[j]),0,none⟩))).setCell ⟨gb,off+j,none⟩ (.pointer (some ⟨g.ap (key hp[i]),0,none⟩))):=by
  refine Goes.frame h fun G hG _=> ?_;have r1:=cO hG i (.pointer (some ⟨g.ap (key hp[j]),0,none⟩)) (by omega);refine(r1.trans fun G' Uq=>cO Uq j (.pointer (some ⟨g.ap (key hp[i]),0,none⟩)) (by omega)).eq ?_;unfold dh;rw[Hp.uP,Hp.swap_eq (aY hi) (aY hj),List.map_set,List.map_set];rfl
 have s2:=s1.drewN q;have s3:=(s2.eq (show _=aa (blk (g.ap (key hp[j])) (.cells (mr g hp[j] j) 126 (0,0))) (aa (dh g (.slice (some ⟨gb,off,none⟩) hp.length cap) (Hp.swap hp i j)) (aa (fH g hp[i] i) R))by unfold fH;ac_rfl)).store 6 (.int .i64 i);have s4:=(s3.eq (show _=aa (blk (g.ap (key hp[i])) (.cells (mr g hp[i] i) 126 (0,0))) (aa (dh g (.slice (some ⟨gb,off,none⟩) hp.length cap) (Hp.swap hp i j)) (aa (fH g hp[j] i) R))by
  show aa (fH g hp[j] i) (aa (dh g (.slice (some ⟨gb,off,none⟩) hp.length cap) (Hp.swap hp i j)) (aa (fH g hp[i] i) R))=aa (fH g hp[i] i) _
  ac_rfl)).store 6 (.int .i64 j)
 refine(s4.drewN q').eq ?_;show aa (fH g hp[i] j) (aa (dh g (.slice (some ⟨gb,off,none⟩) hp.length cap) (Hp.swap hp i j)) (aa (fH g hp[j] i) R))=_
 ac_rfl
theorem P1(h:(zB g (.slice (some ⟨gb,off,none⟩) hp.length cap) hp).holds w F)(hi:i<hp.length)(hj:j<hp.length)(cA:i≠j):gb≠g.ap (key hp[i])∧gb≠g.ap (key hp[j])∧g.ap (key hp[i])≠g.ap (key hp[j]):=by
 have hz: ∀{k},k<hp.length->k<hp.zipIdx.length:=fun h=>by simpa using h
 obtain⟨R,hR1,_⟩:=Cg (A:=fun x:At×Nat=>fH g x.1 x.2) (hz hi) (hz hj) cA;obtain⟨G,H,ha,hb,d,e⟩:=h;have hG:=(mf ha).2;unfold hpA at hb;rw[hR1]at hb;simp only[List.getElem_zipIdx,Nat.zero_add]at hb;have h1:=cK hb;have h2:=MI hb;rw[cD]at hb;have h3:=cK hb;exact⟨fun e=>d gb hG (e▸h1.2),fun e=>d gb hG (e▸h3.2),h2⟩
theorem swap_any(g:Gh)(gb off cap:Nat)(hp:List At)(w:World)(F:Ft)(h:(zB g (.slice (some ⟨gb,off,none⟩) hp.length cap) hp).holds w F)(i j:Nat)(hi:i<hp.length)(hj:j<hp.length)(cA:i≠j)(_hl:hp.length<=16777216):Calls prog 286 #[.slice (some ⟨gb,off,none⟩) hp.length cap, .int .i64 i, .int .i64 j] w fun e w'=>e= .returned (.tuple #[])∧Goes (zB g (.slice (some ⟨gb,off,none⟩) hp.length cap) (Hp.swap hp i j)) w F w':=by
 have HF:=UR h;have ci:=HF.cell i hi;have cj:=HF.cell j hj;have fi:=HF.YV (off+i);have fj:=HF.YV (off+j);have pi:w.cell? ⟨g.ap (key hp[i]),6,none⟩=some (.int .i64 i):=HF.at' i hi 6;have pj:w.cell? ⟨g.ap (key hp[j]),6,none⟩=some (.int .i64 j):=HF.at' j hj 6;have fpi:=HF.atf i hi 6;have fpj:=HF.atf j hj 6;obtain⟨n1,n2,n3⟩:=P1 h hi hj cA;have HG:Hid (∀q q',Goes (zB g (.slice (some ⟨gb,off,none⟩) hp.length cap) (Hp.swap hp i j)) w F
   ((((((w.setCell ⟨gb,off+i,none⟩ (.pointer (some ⟨g.ap (key hp[j]),0,none⟩))).setCell ⟨gb,off+j,none⟩ (.pointer (some ⟨g.ap (key hp[i]),0,none⟩))).drewN q).setCell ⟨g.ap (key hp[j]),6,none⟩ (.int .i64 i)).setCell ⟨g.ap (key hp[i]),6,none⟩ (.int .i64 j)).drewN q')):=fun q q'=>Lq h hi hj cA q q'
 clear HF h;generalize g.ap (key hp[i])=ai at*;generalize g.ap (key hp[j])=aj at*;generalize hp.length=n at*;have ZA:(⟨gb,off+i,none⟩:Addr)≠⟨gb,off+j,none⟩:=fun e=>cA (by injection e with _ e;omega);obtain⟨W1,um⟩: ∃W1,W1=((w.setCell ⟨gb,off+i,none⟩ (.pointer (some ⟨aj,0,none⟩))).setCell ⟨gb,off+j,none⟩ (.pointer (some ⟨ai,0,none⟩))).drew:=⟨_,rfl⟩;have k1:W1.cell? ⟨gb,off+i,none⟩=some (.pointer (some ⟨aj,0,none⟩)):=by rw[um];show(World.setCell _ _ _).cell? _=_;rw[World.cell?_setCell_other _ _ _ _ (Ne.symm ZA)];exact World.cell?_setCell_same _ _ _ ci
 have k2:W1.cell? ⟨gb,off+j,none⟩=some (.pointer (some ⟨ai,0,none⟩)):=by rw[um];show(World.setCell _ _ _).cell? _=_;exact World.cell?_setCell_same _ _ _ (by rw[World.cell?_setCell_other _ _ _ _ ZA];exact cj)
 have k3:W1.cell? ⟨ai,6,none⟩=some (.int .i64 i):=by rw[um];show(World.setCell _ _ _).cell? _=_;rw[World.cell?_setCell_far _ _ _ _ n1,World.cell?_setCell_far _ _ _ _ n1];exact pi
 have k4:W1.cell? ⟨aj,6,none⟩=some (.int .i64 j):=by rw[um];show(World.setCell _ _ _).cell? _=_;rw[World.cell?_setCell_far _ _ _ _ n2,World.cell?_setCell_far _ _ _ _ n2];exact pj
 have l1:W1.frozen? ⟨gb,off+i,none⟩=false:=by rw[um];show(World.setCell _ _ _).frozen? _=_;simpa using fi
 have l3:W1.frozen? ⟨ai,6,none⟩=false:=by rw[um];show(World.setCell _ _ _).frozen? _=_;simpa using fpi
 have l4:W1.frozen? ⟨aj,6,none⟩=false:=by rw[um];show(World.setCell _ _ _).frozen? _=_;simpa using fpj
 have m1:(W1.setCell ⟨aj,6,none⟩ (.int .i64 i)).cell? ⟨gb,off+j,none⟩=some (.pointer (some ⟨ai,0,none⟩)):=by rw[World.cell?_setCell_far _ _ _ _ (Ne.symm n2)];exact k2
 have m2:(W1.setCell ⟨aj,6,none⟩ (.int .i64 i)).cell? ⟨ai,6,none⟩=some (.int .i64 i):=by rw[World.cell?_setCell_far _ _ _ _ (Ne.symm n3)];exact k3
 have HW:Hid (W1=((w.setCell ⟨gb,off+i,none⟩ (.pointer (some ⟨aj,0,none⟩))).setCell ⟨gb,off+j,none⟩ (.pointer (some ⟨ai,0,none⟩))).drew):=um;go_enter func286,ntmps286;go_wp2
 go_region
 rw[<-um];clear um pi pj ci cj fi fj fpi fpj;go_wp2
 go_region
 all_goals (try go_wp2)
 all_goals go_end0
 all_goals refine⟨rfl, ?_⟩
 all_goals (rw[HW.out];exact HG.out 1 1)
variable{g:Gh}{hp ba:List At}{n x gb off cap n0:Nat}{cs:Array Value}{lv:Value}{w:World}{F:Ft}
def fA(x:Nat)(cs:Array Value)(g:Gh)(lv:Value)(hp:List At):aJ:=aa (blk x (.cells cs 88 (0,0))) (zB g lv hp)
def vy(x:Nat):Value:= .iface 184 (.pointer (some ⟨x,11,none⟩))
structure Way(g:Gh)(hp:List At)(n:Nat)(ba:List At):Prop where
 perm:ba.Perm hp
 rest: ∀k,n<=k->ba[k]?=hp[k]?
theorem Way.refl(g:Gh)(hp:List At)(n:Nat):Way g hp n hp:=⟨List.Perm.refl _,fun _ _=>rfl⟩
theorem Way.len(h:Way g hp n ba):ba.length=hp.length:=h.perm.length_eq
theorem Way.swap(h:Way g hp n ba){i j:Nat}(hi:i<n)(hj:j<n)(hn:n<=hp.length):Way g hp n (Hp.swap ba i j):=by have hl:=h.len;refine⟨(Hp.swap_perm (by omega) (by omega)).trans h.perm,fun k hk=> ?_⟩;rw[Hp.su (by omega) (by omega),if_neg (by omega),if_neg (by omega)];exact h.rest k hk
theorem Way.trans{iM:List At}(h:Way g hp n ba)(h':Way g ba n iM):Way g hp n iM:=⟨h'.perm.trans h.perm,fun k hk=>(h'.rest k hk).trans (h.rest k hk)⟩
theorem iB(h:(fA x cs g lv hp).holds w F)(hc:cs[11]?=some lv):w.cell? ⟨x,11,none⟩=some lv:=by have:=(cK h).1;simp only[World.cell?,this];exact hc
theorem UT(h:(fA x cs g lv hp).holds w F): ∃G,(zB g lv hp).holds w G:=by obtain⟨G,H,ha,hb,_⟩:=h;exact⟨H,hb⟩
theorem Je(hn:hp.length=n0)(h:(fA x cs g (.slice (some ⟨gb,off,none⟩) n0 cap) hp).holds w F)(i j:Nat)(hi:i<hp.length)(hj:j<hp.length)(hl:hp.length<=16777216)(q:Nat):Calls prog 285 #[.slice (some ⟨gb,off,none⟩) n0 cap, .int .i64 i, .int .i64 j] (w.drewN q) fun e w'=>e= .returned (.bool (Rt g hp[i] hp[j]))∧ ∃q,w'=w.drewN q:=by subst hn;obtain⟨G,hG⟩:=UT h;refine(PX g gb off cap hp _ (UR (bI hG q)) i j hi hj hl).mono ?_;rintro e w'⟨rfl,q',rfl⟩;exact⟨rfl,_,vZ _ _ _⟩
theorem sw(hn:hp.length=n0)(h:(fA x cs g (.slice (some ⟨gb,off,none⟩) n0 cap) hp).holds w F)(i j:Nat)(hi:i<hp.length)(hj:j<hp.length)(cA:i≠j)(hl:hp.length<=16777216)(q:Nat):Calls prog 286 #[.slice (some ⟨gb,off,none⟩) n0 cap, .int .i64 i, .int .i64 j] (w.drewN q) fun e w'=>e= .returned (.tuple #[])∧Goes (fA x cs g (.slice (some ⟨gb,off,none⟩) n0 cap) (Hp.swap hp i j)) w F w':=by subst hn;unfold fA at h⊢;rw[bq]at h⊢;exact(gR (bI h q) fun G hG=>swap_any g gb off cap hp _ G hG i j hi hj cA hl).mono (fun e w' ⟨h1,h2⟩=>⟨h1,df h2⟩)
theorem TE{k:Nat}(h:0<k):((k:Int)-1).tdiv 2=((Hp.par k:Nat):Int):=by
 have:((k:Int)-1)=((k-1:Nat):Int):=by omega
 rw[this];rfl
theorem Hz(x:Nat)(cs:Array Value)(g:Gh)(gb off cap n0:Nat)(hp:List At)(N j:Nat)(w:World)(F:Ft)(NM:hp.length=n0)(hc:cs[11]?=some (.slice (some ⟨gb,off,none⟩) n0 cap))(h:(fA x cs g (.slice (some ⟨gb,off,none⟩) n0 cap) hp).holds w F)(hN:N<=hp.length)(hj:j<N)(hu:Hp.Mf (fJ g) hp N j)(hl:hp.length<=16777216):Calls prog 160 #[vy x, .int .i64 j] w fun e w'=>e= .returned (.tuple #[])∧ ∃ba,Way g hp N ba∧Hp.Heap (fJ g) ba N∧Goes (fA x cs g (.slice (some ⟨gb,off,none⟩) n0 cap) ba) w F w':=by
 unfold vy;have aap:=enters_of func285 (by kernel_rfl) rfl;have YQ:=enters_of func286 (by kernel_rfl) rfl;go_enter func160,ntmps160;go_wp2;go_loopw [1] (fun jv wr=> ∃k:Nat,jv= .int .i64 k∧k<N∧ ∃ba,Hid (Way g hp N ba∧Hp.Mf (fJ g) ba N k∧Goes (fA x cs g (.slice (some ⟨gb,off,none⟩) n0 cap) ba) w F wr)) (fun jv _=>(intOf jv).toNat)
 case atStart=>exact⟨j,rfl,hj,hp,⟨Way.refl g hp N,hu,Goes.refl h⟩⟩
 case round=>
  obtain⟨k,rfl,hk,ba,H⟩:=hrel;obtain⟨mS,zy,F1,bU,o1,n1⟩:=H.out;have hlen:=mS.len;have HD:Hid (∀(hh:Hp.Heap (fJ g) ba N) (q:Nat),∃ba,Way g hp N ba∧Hp.Heap (fJ g) ba N∧Goes (fA x cs g (.slice (some ⟨gb,off,none⟩) n0 cap) ba) w F (wr.drewN q)):=fun hh q=>⟨ba,mS,hh,(H.out.2.2).drewN q⟩;rcases Nat.eq_zero_or_pos k with hz|NU
  ·subst hz;have HE:=HD.out (zy.heap (fun h=>absurd h (by omega))) 0;have HE':Hid (∃ba,Way g hp N ba∧Hp.Heap (fJ g) ba N∧Goes (fA x cs g (.slice (some ⟨gb,off,none⟩) n0 cap) ba) w F wr):=HE;clear HE HD bU zy mS o1 n1 H h hu;go_wp2;go_end0;exact⟨rfl,HE'.out⟩
  ·obtain⟨p,rK⟩: ∃p,p=Hp.par k:=⟨_,rfl⟩;have Rn:p<k:=by rw[rK];exact Hp.ft NU
   have hdiv:((k:Int)-1).tdiv 2=(p:Int):=by rw[rK];exact TE NU
   have hmL:=gF yw wr x _ (iB bU hc);have hmS: ∀q,_:=fun q=>gF yx (wr.drewN q) x _ (iB (bI bU q) hc);have abK:(p==k)=false:=by simpa using(by omega:p≠k)
   have HL:=Je (by omega:ba.length=n0) bU k p (by omega) (by omega) (by omega) 0;have HPK:Hid (p=Hp.par k):=rK;have Zp:ba[k]?=some (ba[k]'(by omega)):=aY (by omega);have hgp:ba[p]?=some (ba[p]'(by omega)):=aY (by omega);cases hq:Rt g (ba[k]'(by omega)) (ba[p]'(by omega))
   ·rw[hq]at HL;have HE:Hid (∀q,∃ba,Way g hp N ba∧Hp.Heap (fJ g) ba N∧Goes (fA x cs g (.slice (some ⟨gb,off,none⟩) n0 cap) ba) w F (wr.drewN q)):=fun q=>HD.out (zy.heap (fun _ a b ha hb=>by
     rw[<-rK,hgp]at ha;rw[Zp]at hb;cases ha;cases hb;exact rQ hq)) q
    clear rK HD bU zy mS o1 n1 H h hu hq Zp hgp;go_wp2_with (first|(go_at_call 285;go_must(refine HL.mono ?_;rintro e w1⟨rfl,q,rfl⟩)));go_end0;exact⟨rfl,HE.out _⟩
   ·rw[hq]at HL;have HS: ∀q,_:=fun q=>sw (by omega:ba.length=n0) bU p k (by omega) (by omega) (by omega) (by omega) q;have HN:Hid (∀w2,Goes (fA x cs g (.slice (some ⟨gb,off,none⟩) n0 cap) (Hp.swap ba p k)) wr F1 w2->Way g hp N (Hp.swap ba p k)∧Hp.Mf (fJ g) (Hp.swap ba p k) N p∧Goes (fA x cs g (.slice (some ⟨gb,off,none⟩) n0 cap) (Hp.swap ba p k)) w F w2):=fun w2 bE=>by
     refine⟨mS.swap (by omega) hk hN, ?_, ?_⟩
     ·rw[rK];exact zy.step (iT g) (by omega) hk NU (fun a b ha hb=>by rw[<-rK,hgp]at hb;rw[Zp]at ha;cases ha;cases hb;exact yo hq)
     ·obtain⟨F2,gV,o2,n2⟩:=bE;refine⟨F2,gV,o1.trans o2 (fun k hk hf=>(n1 k hf).elim id (fun h=>by omega)),fun k hk=> ?_⟩;rcases n2 k hk with h|h
      ·exact n1 k h
      ·exact .inr (ar o1.size h)
    clear rK HD bU zy mS o1 n1 H h hu hq Zp hgp;go_wp2_with (first|(go_at_call 285;go_must(refine HL.mono ?_;rintro e w1⟨rfl,q,rfl⟩))|(go_at_call 286;go_must(refine(HS _).mono ?_;rintro e w2⟨rfl,bE⟩;have mD:=HN.out w2 bE;clear bE)));go_roundw
    case rel=>exact⟨p,by first|rfl|go_num,by omega,_,mD⟩
    case measure=>simp[intOf];omega
variable{g:Gh}{hp ba:List At}{N i0 i:Nat}
def JC(g:Gh)(hp:List At)(N i0:Nat)(ba:List At)(i:Nat):Prop:=(i=i0∧ba=hp)∨(i0<i∧Hp.Ic (fJ g) ba N i)
theorem JC.near(h:JC g hp N i0 ba i)(hn:Hp.Near (fJ g) hp N i0):Hp.Near (fJ g) ba N i:=by
 rcases h with⟨rfl,rfl⟩|⟨_,h⟩
 ·exact hn
 ·exact h.toNear
def vK(g:Gh)(hp:List At)(N i0:Nat)(ba:List At)(b:Bool):Prop:=Way g hp N ba∧(b=true->Hp.Heap (fJ g) ba N)∧(b=false->ba=hp∧ ∀k,0<k->k<N->Hp.par k=i0->Hp.Edge (fJ g) ba i0 k)
theorem JC.stop(h:JC g hp N i0 ba i)(hw:Way g hp N ba)(hb: ∀k,0<k->k<N->Hp.par k=i->Hp.Edge (fJ g) ba i k):vK g hp N i0 ba (decide (i0<i)):=by
 refine⟨hw,fun hd=> ?_,fun hd=> ?_⟩
 ·rcases h with⟨rfl,_⟩|⟨_,h⟩
  ·simp at hd
  ·exact h.heap hb
 ·rcases h with⟨rfl,h⟩|⟨h,_⟩
  ·exact⟨h,hb⟩
  ·simp[h]at hd
theorem aC{A:aJ}{w w1 w2:World}{F F1:Ft}(o1:Only F w w1)(n1: ∀k,F1 k->F k∨w.heap.size<=k)(h:Goes A w1 F1 w2):Goes A w F w2:=by
 obtain⟨F2,gV,o2,n2⟩:=h;refine⟨F2,gV,o1.trans o2 (fun k hk hf=>(n1 k hf).elim id (fun h=>by omega)),fun k hk=> ?_⟩;rcases n2 k hk with h|h
 ·exact n1 k h
 ·exact .inr (ar o1.size h)
theorem kn{j:Nat}(hi:i<hp.length)(hj:j<hp.length)(h:fJ g (hp[i]'hi) (hp[j]'hj)):Hp.Edge (fJ g) hp i j:=by intro a b ha hb;rw[aY hi]at ha;rw[aY hj]at hb;cases ha;cases hb;exact h
theorem tr(g:Gh)(hp:List At)(i:Nat):Hp.Edge (fJ g) hp i i:=by intro a b ha hb;rw[ha]at hb;cases hb;exact((iT g).total a a).elim id id
theorem CF(x:Nat)(cs:Array Value)(g:Gh)(gb off cap n0:Nat)(hp:List At)(N i0:Nat)(w:World)(F:Ft)(NM:hp.length=n0)(hc:cs[11]?=some (.slice (some ⟨gb,off,none⟩) n0 cap))(h:(fA x cs g (.slice (some ⟨gb,off,none⟩) n0 cap) hp).holds w F)(hN:N<=hp.length)(hi:i0<N)(hu:Hp.Near (fJ g) hp N i0)(hl:hp.length<=16777216):Calls prog 164 #[vy x, .int .i64 i0, .int .i64 N] w fun e w'=> ∃b ba,e= .returned (.bool b)∧vK g hp N i0 ba b∧Goes (fA x cs g (.slice (some ⟨gb,off,none⟩) n0 cap) ba) w F w':=by
 unfold vy;have aap:=enters_of func285 (by kernel_rfl) rfl;have YQ:=enters_of func286 (by kernel_rfl) rfl;have HU:Hid (Hp.Near (fJ g) hp N i0):=hu;clear hu;go_enter func164,ntmps164;go_wp2;go_loopw [7] (fun iv wr=> ∃i:Nat,iv= .int .i64 i∧i<N∧ ∃ba,Hid (Way g hp N ba∧JC g hp N i0 ba i∧Goes (fA x cs g (.slice (some ⟨gb,off,none⟩) n0 cap) ba) w F wr)) (fun iv _=>N-(intOf iv).toNat)
 case atStart=>exact⟨i0,rfl,hi,hp,⟨Way.refl g hp N, .inl ⟨rfl,rfl⟩,Goes.refl h⟩⟩
 case round=>
  obtain⟨i,rfl,hk,ba,H⟩:=hrel;obtain⟨mS,pF,F1,bU,o1,n1⟩:=H.out;have hlen:=mS.len;have HD:Hid (∀(_: ∀k,0<k->k<N->Hp.par k=i->Hp.Edge (fJ g) ba i k) (q:Nat),∃iM,vK g hp N i0 iM (decide (i0<i))∧Goes (fA x cs g (.slice (some ⟨gb,off,none⟩) n0 cap) iM) w F (wr.drewN q)):=fun hb q=>⟨ba,pF.stop mS hb,H.out.2.2.drewN q⟩;have HN:Hid (∀j,0<j->j<N->Hp.par j=i->Hp.Edge (fJ g) ba j i->(∀k,0<k->k<N->Hp.par k=i->Hp.Edge (fJ g) ba j k)-> ∀w2,Goes (fA x cs g (.slice (some ⟨gb,off,none⟩) n0 cap) (Hp.swap ba i j)) wr F1 w2->Way g hp N (Hp.swap ba i j)∧JC g hp N i0 (Hp.swap ba i j) j∧Goes (fA x cs g (.slice (some ⟨gb,off,none⟩) n0 cap) (Hp.swap ba i j)) w F w2):=fun j hj hjN Xz he hm w2 bE=>by
   have aN:=Hp.ft hj;refine⟨mS.swap hk hjN hN, .inr ⟨?_,(pF.near HU.out).step (by omega) hjN Xz hj he hm⟩,aC o1 n1 bE⟩;rcases pF with⟨rfl,_⟩|⟨h,_⟩
   ·omega
   ·omega
  have hmL: ∀q,_:=fun q=>gF yw (wr.drewN q) x _ (iB (bI bU q) hc);have aaS:=gF yw wr x _ (iB bU hc);have hmS: ∀q,_:=fun q=>gF yx (wr.drewN q) x _ (iB (bI bU q) hc);by_cases h1:N<=2*i+1
  ·have HE:Hid (∃iM,vK g hp N i0 iM (decide (i0<i))∧Goes (fA x cs g (.slice (some ⟨gb,off,none⟩) n0 cap) iM) w F wr):=HD.out (fun k hk SN rK=>by unfold Hp.par at rK;omega) 0;clear HD HN bU pF mS o1 n1 H h hmL aaS hmS;have BX:((N:Nat):Int)<=2*(i:Int)+1:=by omega
   go_wp2;go_ret;obtain⟨iM,h1,h2⟩:=HE.out;exact⟨_,iM,by first|rfl|(congr 2;simp),h1,h2⟩
  ·obtain⟨j1,VZ⟩: ∃j1,j1=2*i+1:=⟨_,rfl⟩;obtain⟨j2,Xu⟩: ∃j2,j2=j1+1:=⟨_,rfl⟩;have a1:2*(i:Int)+1=(j1:Int):=by omega
   have a2:(j1:Int)+1=(j2:Int):=by omega
   have b1:j1<N:=by omega
   have b3:0<=(j1:Int):=by omega
   have b4:N<=n0:=by omega
   clear h1;obtain⟨LT,F8⟩: ∃f:Nat->Nat->Bool,∀a b (ha:a<ba.length) (hb:b<ba.length),f a b=Rt g (ba[a]'ha) (ba[b]'hb):=
    ⟨fun a b=>if h:a<ba.length∧b<ba.length then Rt g (ba[a]'h.1) (ba[b]'h.2)else false,fun a b ha hb=>dif_pos ⟨ha,hb⟩⟩
   have U9: ∀a b:Nat,a<n0->b<n0-> ∀q:Nat,Calls prog 285 #[.slice (some ⟨gb,off,none⟩) n0 cap, .int .i64 a, .int .i64 b] (wr.drewN q) fun e w'=>e= .returned (.bool (LT a b))∧ ∃q,w'=wr.drewN q:=fun a b ha hb q=>by rw[F8 a b (by omega) (by omega)];exact Je (by omega) bU a b (by omega) (by omega) (by omega) q
   have Ud: ∀a b:Nat,a<n0->b<n0->Calls prog 285 #[.slice (some ⟨gb,off,none⟩) n0 cap, .int .i64 a, .int .i64 b] wr fun e w'=>e= .returned (.bool (LT a b))∧ ∃q,w'=wr.drewN q:=fun a b ha hb=>U9 a b ha hb 0;by_cases h2:j2<N
   ·cases uZ:LT j2 j1
    ·have hm: ∀k,0<k->k<N->Hp.par k=i->Hp.Edge (fJ g) ba j1 k:=fun k h0 SN rK=>by
      have:k=j1∨k=j2:=by unfold Hp.par at rK;omega
      rcases this with rfl|rfl
      ·exact tr g _ _
      ·exact kn (by omega) (by omega) (rQ ((F8 _ _ _ _).symm.trans uZ))
     cases ux:LT j1 i
     ·have HE:Hid (∀q,∃iM,vK g hp N i0 iM (decide (i0<i))∧Goes (fA x cs g (.slice (some ⟨gb,off,none⟩) n0 cap) iM) w F (wr.drewN q)):=fun q=>HD.out (fun k h0 SN rK=>Hp.Edge.trans (iT g) (by omega) (kn (by omega) (by omega) (rQ ((F8 _ _ _ _).symm.trans ux))) (hm k h0 SN rK)) q;clear HD HN bU pF mS o1 n1 H h hm VZ Xu F8;go_wp2_with (first|(go_at_call 285;first|(refine(U9 _ _ (by omega) (by omega) _).mono ?_;rintro e w1⟨rfl,q,rfl⟩)|(refine(Ud _ _ (by omega) (by omega)).mono ?_;rintro e w1⟨rfl,q,rfl⟩)));go_ret;obtain⟨iM,h1,h2⟩:=HE.out _;exact⟨_,iM,by first|rfl|(congr 2;simp),h1,h2⟩
     ·have HS: ∀q,_:=fun q=>sw (by omega:ba.length=n0) bU i j1 (by omega) (by omega) (by omega) (by omega) q;have Yb:Hid _:=HN.out j1 (by omega) (by omega) (by unfold Hp.par;omega) (kn (by omega) (by omega) (yo ((F8 _ _ _ _).symm.trans ux))) hm;have aN:i<j1∧j1<N:=by omega
      clear HD HN bU pF mS o1 n1 H h hm VZ Xu F8;go_wp2_with (first|(go_at_call 285;first|(refine(U9 _ _ (by omega) (by omega) _).mono ?_;rintro e w1⟨rfl,q,rfl⟩)|(refine(Ud _ _ (by omega) (by omega)).mono ?_;rintro e w1⟨rfl,q,rfl⟩))|(go_at_call 286;go_must(refine(HS _).mono ?_;rintro e w2⟨rfl,bE⟩;have mD:=Yb.out w2 bE;clear bE)));go_roundw
      case rel=>exact⟨j1,by first|rfl|go_num,aN.2,_,mD⟩
      case measure=>simp[intOf];omega
    ·have hm: ∀k,0<k->k<N->Hp.par k=i->Hp.Edge (fJ g) ba j2 k:=fun k h0 SN rK=>by
      have:k=j1∨k=j2:=by unfold Hp.par at rK;omega
      rcases this with rfl|rfl
      ·exact kn (by omega) (by omega) (yo ((F8 _ _ _ _).symm.trans uZ))
      ·exact tr g _ _
     cases ux:LT j2 i
     ·have HE:Hid (∀q,∃iM,vK g hp N i0 iM (decide (i0<i))∧Goes (fA x cs g (.slice (some ⟨gb,off,none⟩) n0 cap) iM) w F (wr.drewN q)):=fun q=>HD.out (fun k h0 SN rK=>Hp.Edge.trans (iT g) (by omega) (kn (by omega) (by omega) (rQ ((F8 _ _ _ _).symm.trans ux))) (hm k h0 SN rK)) q;clear HD HN bU pF mS o1 n1 H h hm VZ Xu F8;go_wp2_with (first|(go_at_call 285;first|(refine(U9 _ _ (by omega) (by omega) _).mono ?_;rintro e w1⟨rfl,q,rfl⟩)|(refine(Ud _ _ (by omega) (by omega)).mono ?_;rintro e w1⟨rfl,q,rfl⟩)));go_ret;obtain⟨iM,h1,h2⟩:=HE.out _;exact⟨_,iM,by first|rfl|(congr 2;simp),h1,h2⟩
     ·have HS: ∀q,_:=fun q=>sw (by omega:ba.length=n0) bU i j2 (by omega) (by omega) (by omega) (by omega) q;have Yb:Hid _:=HN.out j2 (by omega) (by omega) (by unfold Hp.par;omega) (kn (by omega) (by omega) (yo ((F8 _ _ _ _).symm.trans ux))) hm;have aN:i<j2∧j2<N:=by omega
      clear HD HN bU pF mS o1 n1 H h hm VZ Xu F8;go_wp2_with (first|(go_at_call 285;first|(refine(U9 _ _ (by omega) (by omega) _).mono ?_;rintro e w1⟨rfl,q,rfl⟩)|(refine(Ud _ _ (by omega) (by omega)).mono ?_;rintro e w1⟨rfl,q,rfl⟩))|(go_at_call 286;go_must(refine(HS _).mono ?_;rintro e w2⟨rfl,bE⟩;have mD:=Yb.out w2 bE;clear bE)));go_roundw
      case rel=>exact⟨j2,by first|rfl|go_num,aN.2,_,mD⟩
      case measure=>simp[intOf];omega
   ·have hm: ∀k,0<k->k<N->Hp.par k=i->Hp.Edge (fJ g) ba j1 k:=fun k h0 SN rK=>by
     have:k=j1:=by unfold Hp.par at rK;omega
     rw[this];exact tr g _ _
    cases ux:LT j1 i
    ·have HE:Hid (∀q,∃iM,vK g hp N i0 iM (decide (i0<i))∧Goes (fA x cs g (.slice (some ⟨gb,off,none⟩) n0 cap) iM) w F (wr.drewN q)):=fun q=>HD.out (fun k h0 SN rK=>Hp.Edge.trans (iT g) (by omega) (kn (by omega) (by omega) (rQ ((F8 _ _ _ _).symm.trans ux))) (hm k h0 SN rK)) q;clear HD HN bU pF mS o1 n1 H h hm VZ Xu F8;go_wp2_with (first|(go_at_call 285;first|(refine(U9 _ _ (by omega) (by omega) _).mono ?_;rintro e w1⟨rfl,q,rfl⟩)|(refine(Ud _ _ (by omega) (by omega)).mono ?_;rintro e w1⟨rfl,q,rfl⟩)));go_ret;obtain⟨iM,h1,h2⟩:=HE.out _;exact⟨_,iM,by first|rfl|(congr 2;simp),h1,h2⟩
    ·have HS: ∀q,_:=fun q=>sw (by omega:ba.length=n0) bU i j1 (by omega) (by omega) (by omega) (by omega) q;have Yb:Hid _:=HN.out j1 (by omega) (by omega) (by unfold Hp.par;omega) (kn (by omega) (by omega) (yo ((F8 _ _ _ _).symm.trans ux))) hm;have aN:i<j1∧j1<N:=by omega
     clear HD HN bU pF mS o1 n1 H h hm VZ Xu F8;go_wp2_with (first|(go_at_call 285;first|(refine(U9 _ _ (by omega) (by omega) _).mono ?_;rintro e w1⟨rfl,q,rfl⟩)|(refine(Ud _ _ (by omega) (by omega)).mono ?_;rintro e w1⟨rfl,q,rfl⟩))|(go_at_call 286;go_must(refine(HS _).mono ?_;rintro e w2⟨rfl,bE⟩;have mD:=Yb.out w2 bE;clear bE)));go_roundw
     case rel=>exact⟨j1,by first|rfl|go_num,aN.2,_,mD⟩
     case measure=>simp[intOf];omega
