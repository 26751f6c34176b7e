import Derived.Test.YtffamlbkmjmipaaGreatDoorC04
set_option maxHeartbeats 8000000
set_option maxRecDepth 100000
namespace Go.Proofs.YtffamlbkmjmipaaGreatDoor
open _root_.Go.Proofs.Tryz
namespace Pj
open Go.RowKit aD Mc
attribute [local go_sem] ae ah
variable{g off n cap:Nat}{xs:List Value}{w:World}{F:Ft}
theorem xO(ao:Option Addr)(n cap:Nat)(w:World):Calls prog 284 #[.slice ao n cap] w fun e w'=>e= .returned (.int .i64 n)∧w'=w:=by go_enter func284,ntmps284;go_wp2;go_ret;exact⟨rfl,rfl⟩
theorem ja{e:TypeId}(h:(rowA e 1 (.slice (some ⟨g,off,none⟩) n cap) n xs).holds w F)(m:Nat)(hm:m<=n):(rowA e 1 (.slice (some ⟨g,off,none⟩) m cap) m (xs.take m)).holds w F:=by
 have hl:=j9 h;rcases h.2 with⟨h0,_⟩|⟨g',nG,bO,cur,hv,hF,hg,hn,ve,cY,ht⟩
 ·cases h0
 ·cases hv;refine⟨by rw[List.length_take];omega, .inr ⟨g,off,cap,cur,rfl,hF,hg,by omega,ve,cY, ?_⟩⟩;rw[<-ht,List.take_take];congr 1;omega
theorem mf{e:TypeId}(h:(rowA e 1 (.slice (some ⟨g,off,none⟩) n cap) n xs).holds w F)(c:Nat)(h1:n<=c)(h2:c<=cap):(rowA e 1 (.slice (some ⟨g,off,none⟩) n c) n xs).holds w F:=by
 rcases h.2 with⟨h0,_⟩|⟨g',nG,bO,cur,hv,hF,hg,hn,ve,cY,ht⟩
 ·cases h0
 ·cases hv;exact⟨h.1, .inr ⟨g,off,c,cur,rfl,hF,hg,h1,by omega,by omega,ht⟩⟩
theorem Ea(g:Gh)(hp:List At)(a:At):hpA g (hp++ [a])=aa (hpA g hp) (eN g a hp.length):=by unfold hpA;rw[List.zipIdx_append,all_append];congr 1;show all _ [(a,0+hp.length)]=_;rw[rV,Nat.zero_add]
theorem KS{x:Nat}{cs:Array Value}{g:Gh}{gb:Nat}{hp:List At}{a:At}(h:(dY x cs g (.slice (some ⟨gb,off,none⟩) (hp.length+1) cap) (hp++ [a])).holds w F):Goes (aa (dY x (cs.setIfInBounds 11 (.slice (some ⟨gb,off,none⟩) hp.length cap)) g (.slice (some ⟨gb,off,none⟩) hp.length cap) hp) (eN g a hp.length)) w F ((w.setCell ⟨gb,off+hp.length,none⟩ (.pointer none)).setCell ⟨x,11,none⟩ (.slice (some ⟨gb,off,none⟩) hp.length cap)):=by
 unfold dY vu at h⊢;rw[Ea]at h;have h1:(aa (dm g (.slice (some ⟨gb,off,none⟩) (hp.length+1) cap) (hp++ [a])) (aa (blk x (.cells cs 88 (0,0))) (aa (hpA g hp) (eN g a hp.length)))).holds w F:=by
  have e:aa (dm g (.slice (some ⟨gb,off,none⟩) (hp.length+1) cap) (hp++ [a])) (aa (blk x (.cells cs 88 (0,0))) (aa (hpA g hp) (eN g a hp.length)))=aa (blk x (.cells cs 88 (0,0))) (aa (dm g (.slice (some ⟨gb,off,none⟩) (hp.length+1) cap) (hp++ [a])) (aa (hpA g hp) (eN g a hp.length))):=by ac_rfl
  rw[e];exact h
 have s1:=Goes.frame (A':=dm g (.slice (some ⟨gb,off,none⟩) hp.length cap) hp) (w':=w.setCell ⟨gb,off+hp.length,none⟩ (.pointer none)) h1 (fun G hG _=>by
  unfold dm at hG;simp only[aC,List.length_cons,List.length_nil,Nat.zero_add]at hG;refine(dc hG hp.length (.pointer none) (by omega)).mono fun F' nk=> ?_;have:=ja nk hp.length (by omega);unfold dm;rw[List.take_set_of_le (af _)]at this;have e2:((hp++ [a]).map fun a=>pt (g.ap (key a))).take hp.length=hp.map fun a=>pt (g.ap (key a)):=by rw[aB,List.take_left' (by simp)]
  rw[e2]at this;exact this)
 have s2:=(s1.eq (show _=aa (blk x (.cells cs 88 (0,0))) (aa (dm g (.slice (some ⟨gb,off,none⟩) hp.length cap) hp) (aa (hpA g hp) (eN g a hp.length)))by ac_rfl)).store 11 (.slice (some ⟨gb,off,none⟩) hp.length cap);exact s2.eq (by ac_rfl)
theorem pop_any(x:Nat)(cs:Array Value)(g:Gh)(gb off cap n0:Nat)(hp:List At)(a:At)(w:World)(F:Ft)(JH:hp.length+1=n0)(hc:cs[11]?=some (.slice (some ⟨gb,off,none⟩) n0 cap))(h:(dY x cs g (.slice (some ⟨gb,off,none⟩) n0 cap) (hp++ [a])).holds w F)(hl:hp.length<=16777216)(cV:n0<=cap):Calls prog 287 #[.pointer (some ⟨x,11,none⟩)] w fun e w'=>e= .returned (.iface 127 (pt (g.ap (key a))))∧Goes (aa (dY x (cs.setIfInBounds 11 (.slice (some ⟨gb,off,none⟩) hp.length cap)) g (.slice (some ⟨gb,off,none⟩) hp.length cap) hp) (eN g a hp.length)) w F w':=by
 subst JH;have c11:=gN h hc;have f11:w.frozen? ⟨x,11,none⟩=false:=by have:=(bQ h).1;simp only[World.frozen?,this];simp
 have HG:Hid (Goes (aa (dY x (cs.setIfInBounds 11 (.slice (some ⟨gb,off,none⟩) hp.length cap)) g (.slice (some ⟨gb,off,none⟩) hp.length cap) hp) (eN g a hp.length)) w F
   ((w.setCell ⟨gb,off+hp.length,none⟩ (.pointer none)).setCell ⟨x,11,none⟩ (.slice (some ⟨gb,off,none⟩) hp.length cap))):=KS h
 obtain⟨c1,f1,cz⟩:w.cell? ⟨gb,off+hp.length,none⟩=some (.pointer (some ⟨g.ap (key a),0,none⟩))∧w.frozen? ⟨gb,off+hp.length,none⟩=false∧gb≠x:=by
  obtain⟨G,H,ha,⟨G1,H1,hb,_,_,e1⟩,d,e⟩:=h;unfold dm at hb;have jK:(rowA 127 1 (.slice (some ⟨gb,off,none⟩) (hp.length+1) cap) (hp.length+1) ((hp++ [a]).map fun a=>pt (g.ap (key a)))).holds w G1:=by simpa using hb
  refine⟨?_,eu jK _,fun e2=>d x ((ha.2 x).2 rfl) ((e1 x).2 (.inl (e2▸(jC jK).2)))⟩;rw[aW jK _ (by omega)];simp[pt]
 have Wk:(w.setCell ⟨gb,off+hp.length,none⟩ (.pointer none)).cell? ⟨x,11,none⟩=some (.slice (some ⟨gb,off,none⟩) (hp.length+1) cap):=by rw[World.cell?_setCell_far _ _ _ _ cz];exact c11
 clear h;unfold pt;generalize g.ap (key a)=ap at*;have tH:(0:Int)<=((hp.length:Nat):Int):=by omega
 generalize hp.length=n at*;go_enter func287,ntmps287;go_wp2;go_ret;exact⟨rfl,HG.out⟩
theorem CC:(prog.info? 127).map (fun i=>(i.zero,i.size,i.bytes))=some (some (.pointer none),1,8):=by kernel_rfl
theorem fo{t:TypeId}{z:Value}{a b:Nat}(h:(prog.info? t).map (fun i=>(i.zero,i.size,i.bytes))=some (some z,a,b)): ∃i,prog.info? t=some i∧i.zero=some z∧i.size=a∧i.bytes=b:=by
 cases hi:prog.info? t with
 |none=>rw[hi]at h;cases h
 |some i=>rw[hi]at h;simp only[Option.map_some,Option.some.injEq,Prod.mk.injEq]at h;exact⟨i,rfl,h.1,h.2.1,h.2.2⟩
theorem Ig(v:Value)(w:World):(Instr.typeAssert (.iface 127 v) 20 127 false).run prog w= .ok v w:=by kernel_rfl
theorem push_any(x:Nat)(cs:Array Value)(g:Gh)(ao:Option Addr)(cap n0 k0:Nat)(hp:List At)(a:At)(w:World)(F:Ft)(JH:hp.length=n0)(hc:cs[11]?=some (.slice ao n0 cap))(h:(aa (dY x cs g (.slice ao n0 cap) hp) (eN g a k0)).holds w F)(hl:hp.length<=16777216):Calls prog 288 #[.pointer (some ⟨x,11,none⟩), .iface 127 (pt (g.ap (key a)))] w fun e w'=>e= .returned (.tuple #[])∧ ∃gb off bO,Goes (dY x (cs.setIfInBounds 11 (.slice (some ⟨gb,off,none⟩) (n0+1) bO)) g (.slice (some ⟨gb,off,none⟩) (n0+1) bO) (hp++ [a])) w F w':=by
 obtain⟨i0,kg,nV,j0,kC⟩:=fo CC;have h1:(aa (blk x (.cells cs 88 (0,0))) (aa (dm g (.slice ao n0 cap) hp) (aa (hpA g hp) (eN g a k0)))).holds w F:=by
  have e:aa (blk x (.cells cs 88 (0,0))) (aa (dm g (.slice ao n0 cap) hp) (aa (hpA g hp) (eN g a k0)))=aa (dY x cs g (.slice ao n0 cap) hp) (eN g a k0):=by unfold dY vu;ac_rfl
  rw[e];exact h
 have yy:=(bQ h1).1;have c11:w.cell? ⟨x,11,none⟩=some (.slice ao n0 cap):=by simp only[World.cell?,yy];exact hc
 have f11:w.frozen? ⟨x,11,none⟩=false:=by simp only[World.frozen?,yy];simp
 have h2:(aa (eN g a k0) (aa (blk x (.cells cs 88 (0,0))) (aa (dm g (.slice ao n0 cap) hp) (hpA g hp)))).holds w F:=by
  have e:aa (eN g a k0) (aa (blk x (.cells cs 88 (0,0))) (aa (dm g (.slice ao n0 cap) hp) (hpA g hp)))=aa (blk x (.cells cs 88 (0,0))) (aa (dm g (.slice ao n0 cap) hp) (aa (hpA g hp) (eN g a k0))):=by ac_rfl
  rw[e];exact h1
 have bP:=(bQ h2).1;have hxa:g.ap (key a)≠x:=Io h2;have c6:w.cell? ⟨g.ap (key a),6,none⟩=some (.int .i64 k0):=by simp only[World.cell?,bP];rfl
 have f6:w.frozen? ⟨g.ap (key a),6,none⟩=false:=by simp only[World.frozen?,bP];simp
 have HS:Hid (Goes (aa (dm g (.slice ao n0 cap) hp) (aa (blk x (.cells cs 88 (0,0))) (aa (hpA g hp) (eN g a n0)))) w F ((w.setCell ⟨g.ap (key a),6,none⟩ (.int .i64 n0)).alloc (.cells #[.pointer (some ⟨g.ap (key a),0,none⟩)] 127))):=by
  have s1:=(Goes.refl h2).store 6 (.int .i64 n0);refine(s1.iD _).eq ?_;show aa (eN g a n0) (aa (blk x (.cells cs 88 (0,0))) (aa (dm g (.slice ao n0 cap) hp) (hpA g hp)))=_
  ac_rfl
 obtain⟨W1,qV⟩: ∃W1,W1=(w.setCell ⟨g.ap (key a),6,none⟩ (.int .i64 n0)).alloc (.cells #[.pointer (some ⟨g.ap (key a),0,none⟩)] 127):=⟨_,rfl⟩;have cY:(w.setCell ⟨g.ap (key a),6,none⟩ (.int .i64 n0)).heap.size=w.heap.size:=by simp[World.setCell]
 have pR:=HS.out;rw[<-qV]at pR;obtain⟨F1,bU,o1,n1⟩:=pR;have PQ:=bU;obtain⟨G,H,ha,hb,d,e⟩:=bU;have QB:W1.heap[w.heap.size]?=some (.cells #[.pointer (some ⟨g.ap (key a),0,none⟩)] 127 (0,0)):=by rw[qV,<-cY];exact heap_alloc_new _ _
 have iL:Hid ((rowA 127 1 (.slice ao n0 cap) n0 (hp.map fun a=>pt (g.ap (key a)))).holds W1 G):=by unfold dm at ha;rw[JH]at ha;exact ha
 have HX:Hid (∀eK nT w2,Goes (rowA 127 1 (.slice eK (n0+1) nT) (n0+1) ((hp.map fun a=>pt (g.ap (key a)))++ [.pointer (some ⟨g.ap (key a),0,none⟩)])) W1 G w2->
   w2.cell? ⟨x,11,none⟩=some (.slice ao n0 cap)∧w2.frozen? ⟨x,11,none⟩=false∧ ∃gb off,eK=some ⟨gb,off,none⟩∧
   Goes (dY x (cs.setIfInBounds 11 (.slice (some ⟨gb,off,none⟩) (n0+1) nT)) g (.slice (some ⟨gb,off,none⟩) (n0+1) nT) (hp++ [a])) w F (w2.setCell ⟨x,11,none⟩ (.slice eK (n0+1) nT))):=fun eK nT w2 bz=>by
  have s2:=ay o1 n1 (aH hb bz d e);obtain⟨F2,gl,o2,n2⟩:=s2;have TG: ∃gb off,eK=some ⟨gb,off,none⟩:=by obtain⟨G2,O5,_⟩:=aD.left gl;obtain⟨_,_,e1,_,_,h4,_⟩:=bS O5;cases e1;obtain⟨g',nG,e2,_⟩:=h4 (by omega);exact⟨g',nG,e2⟩
  obtain⟨gb,off,rfl⟩:=TG;have kT:(aa (blk x (.cells cs 88 (0,0))) (aa (rowA 127 1 (.slice (some ⟨gb,off,none⟩) (n0+1) nT) (n0+1) ((hp.map fun a=>pt (g.ap (key a)))++ [.pointer (some ⟨g.ap (key a),0,none⟩)])) (aa (hpA g hp) (eN g a n0)))).holds w2 F2:=by rw[cA];exact gl
  have cL:=(bQ kT).1;refine⟨by simp only[World.cell?,cL];exact hc,by simp only[World.frozen?,cL];simp,gb,off,rfl, ?_⟩;have s4:=Goes.store (A:=_) (w:=w) (F:=F) ⟨F2,kT,o2,n2⟩ 11 (.slice (some ⟨gb,off,none⟩) (n0+1) nT);refine s4.eq ?_;unfold dY vu dm;rw[Ea,aB,aC,JH];rfl
 clear h h1 h2 yy bP ha hb PQ o1 n1 d e HS;have Wk:(w.setCell ⟨g.ap (key a),6,none⟩ (.int .i64 n0)).cell? ⟨x,11,none⟩=some (.slice ao n0 cap):=by rw[World.cell?_setCell_far _ _ _ _ hxa];exact c11
 unfold pt at iL HX⊢;generalize g.ap (key a)=ap at*;have hlen:n0<=16777216:=by omega
 have Rx:Hid (hp.length=n0):=JH;have HW1:Hid (W1=(w.setCell ⟨ap,6,none⟩ (.int .i64 n0)).alloc (.cells #[.pointer (some ⟨ap,0,none⟩)] 127)):=qV;clear JH hl qV;have R4: ∀w,_:=fun w=>Ig (.pointer (some ⟨ap,0,none⟩)) w;go_enter func288,ntmps288;go_wp2_with (at_builtin;go_must(rw[<-HW1.out];refine bh _ rfl _ _ 86 rfl 127 i0 (.pointer none) 1 8 underlying86 kg nV j0 kC rfl (by decide) (F:=G) _ n0 _ rfl iL.out ⟨w.heap.size,0,none⟩ 1 1 [.pointer (some ⟨ap,0,none⟩)] rfl rfl (World.news_of_block (cs:= #[.pointer (some ⟨ap,0,none⟩)]) (t:=127) (fr:=(0,0)) QB) (by simp[Value.oneCell']) (by unfold maxLen;omega) (by omega) ?main))
 case main=>intro eK nT w2 bz;obtain⟨c2,f2,gb,off,rfl,TQ⟩:=HX.out eK nT w2 bz;have nS:Hid _:=TQ;clear bz TQ;go_wp2;go_end0;exact⟨rfl,gb,off,nT,nS.out⟩
variable{cs:Array Value}
theorem hide{p:Prop}(h:p):Hid p:=h
theorem xN{x:Nat}{g:Gh}{lv:Value}{hp:List At}{w:World}{F:Ft}(h:(dY x cs g lv hp).holds w F): ∃ao cap,lv= .slice ao hp.length cap∧hp.length<=cap∧(0<hp.length-> ∃gb off,ao=some ⟨gb,off,none⟩):=by obtain⟨G,hG⟩:=PC h;obtain⟨ao,cap,h1,h2,_,h3⟩:=ND hG;exact⟨ao,cap,h1,h2,h3⟩
theorem UO{u:Value}(v:Value)(h:cs[11]?=some u):(cs.setIfInBounds 11 v)[11]?=some v:=by have:=(bZ.1 h).1;rw[Array.getElem?_setIfInBounds_self_of_lt this]
theorem MT(x:Nat)(cs:Array Value)(g:Gh)(lv:Value)(hp:List At)(i:Nat)(w:World)(F:Ft)(hc:cs[11]?=some lv)(h:(dY x cs g lv hp).holds w F)(hi:i<hp.length)(hu:Hp.Near (eT g) hp hp.length i)(hl:hp.length<=16777216):Calls prog 185 #[sf x, .int .i64 i] w fun e w'=>e= .returned (.tuple #[])∧ ∃aX,aX.Perm hp∧Hp.Heap (eT g) aX aX.length∧Goes (dY x cs g lv aX) w F w':=by
 obtain⟨ao,cap,rfl,cV,ck⟩:=xN h;obtain⟨gb,off,rfl⟩:=ck (by omega);obtain⟨n,hn⟩: ∃n,hp.length=n:=⟨_,rfl⟩;rw[hn]at hc h;have R9:=zq x cs g gb off cap n hp n i w F hn hc h (by omega) (by omega) (hn▸hu) hl;have Rz:Hid (∀w1,sI g hp n i hp false->Goes (dY x cs g (.slice (some ⟨gb,off,none⟩) n cap) hp) w F w1->Calls prog 160 #[sf x, .int .i64 i] w1 fun e w'=>e= .returned (.tuple #[])∧ ∃aX,aX.Perm hp∧Hp.Heap (eT g) aX aX.length∧Goes (dY x cs g (.slice (some ⟨gb,off,none⟩) n cap) aX) w F w'):=fun w1 hs bz=>by obtain⟨F1,bU,o1,n1⟩:=bz;have vp:Hp.H7 (eT g) hp n i:=⟨hn▸hu,(hs.2.2 rfl).2⟩;refine(Dh x cs g gb off cap n hp n i w1 F1 hn hc bU (by omega) (by omega) vp hl).mono ?_;rintro e w'⟨rfl,aX,hw,hh,hg⟩;exact⟨rfl,aX,hw.perm,by rw[hw.len,hn];exact hh,ay o1 n1 hg⟩
 have hm:=fT xS w x _ (gN h hc);have S1:=enters_of func284 (by kernel_rfl) rfl;have HLN:Hid (hp.length=n):=hn;have V3:Hid (∀w1 aX,sI g hp n i aX true->Goes (dY x cs g (.slice (some ⟨gb,off,none⟩) n cap) aX) w F w1-> ∃aX,aX.Perm hp∧Hp.Heap (eT g) aX aX.length∧Goes (dY x cs g (.slice (some ⟨gb,off,none⟩) n cap) aX) w F w1):=fun w1 aX hs bz=>⟨aX,hs.1.perm,by rw[hs.1.len,hn];exact hs.2.1 rfl,bz⟩;rw[hn];clear hu h hn hi hl cV ck;unfold sf at*;go_enter func185,ntmps185;go_wp2_with (first
  |(go_at_call 284;go_must(refine(xO _ _ _ _).mono ?_;rintro e w1⟨rfl,rfl⟩))
  |(go_at_call 164;go_must(refine R9.mono ?_;rintro e w1⟨b,aX,rfl,hs,bz⟩;have Mi:=hide hs;have yv:=hide bz;clear hs bz R9;cases b))
  |(go_at_call 160;go_must(have e1:=(Mi.out.2.2 rfl).1;subst e1;refine(Rz.out _ Mi.out yv.out).mono ?_;rintro e w2⟨rfl,hx⟩;have Dx:=hide hx;clear hx)))
 all_goals go_end0
 ·exact⟨rfl,Dx.out⟩
 ·exact⟨rfl,V3.out _ _ Mi.out yv.out⟩
variable{n:Nat}
def jk(w:World)(p:Nat):Prop:= ∃cs t,w.heap[p]?=some (.cells cs t (0,0))
theorem se{κ:Type}{l:List κ}{x:κ}(h:l[0]?=some x): ∃t,l=x::t:=by
 cases l with
 |nil=>simp at h
 |cons y t=>simp at h;exact⟨t,by rw[h]⟩
theorem jr{κ:Type} [DecidableEq κ]{l:List κ}{i:Nat}{x:κ}(h:l[i]?=some x)(hb: ∀k,k<i->l[k]?≠some x):l.erase x=l.eraseIdx i:=by
 induction l generalizing i with
 |nil=>simp at h
 |cons y l ih=>
  match i with
  |0=>simp at h;subst h;simp
  |i+1=>have cz:y≠x:=fun e=>hb 0 (by omega) (by simp[e]);rw[List.erase_cons_tail (by simpa using cz),List.eraseIdx_cons_succ,ih (by simpa using h) (fun k hk=>by simpa using hb (k+1) (by omega))]
theorem Fz(x:Nat)(cs:Array Value)(g:Gh)(lv:Value)(hp:List At)(a:At)(k0:Nat)(w:World)(F:Ft)(hc:cs[11]?=some lv)(h:(aa (dY x cs g lv hp) (eN g a k0)).holds w F)(hh:Hp.Heap (eT g) hp hp.length)(hl:hp.length<=16777200):Calls prog 121 #[sf x, .iface 127 (pt (g.ap (key a)))] w fun e w'=>e= .returned (.tuple #[])∧ ∃aX jw,aX.Perm (a::hp)∧Hp.Heap (eT g) aX aX.length∧Goes (dY x (cs.setIfInBounds 11 jw) g jw aX) w F w':=by
 have hlo: ∃G,(dY x cs g lv hp).holds w G:=by obtain⟨G,hG,_⟩:=aD.left h;exact⟨G,hG⟩
 obtain⟨G0,kP⟩:=hlo;obtain⟨ao,cap,rfl,cV,_⟩:=xN kP;obtain⟨n,hn⟩: ∃n,hp.length=n:=⟨_,rfl⟩;rw[hn]at hc h;have Mh:=push_any x cs g ao cap n k0 hp a w F hn hc h (by omega);have hm:=AE Ku w x;have S1:=enters_of func284 (by kernel_rfl) rfl;have aah:=enters_of func288 (by kernel_rfl) rfl;have HAF:Hid (∀gb off bO w1,Goes (dY x (cs.setIfInBounds 11 (.slice (some ⟨gb,off,none⟩) (n+1) bO)) g (.slice (some ⟨gb,off,none⟩) (n+1) bO) (hp++ [a])) w F w1->
   w1.cell? ⟨x,11,none⟩=some (.slice (some ⟨gb,off,none⟩) (n+1) bO)∧
   Calls prog 160 #[sf x, .int .i64 n] w1 fun e w'=>e= .returned (.tuple #[])∧ ∃aX jw,aX.Perm (a::hp)∧Hp.Heap (eT g) aX aX.length∧Goes (dY x (cs.setIfInBounds 11 jw) g jw aX) w F w'):=fun gb off bO w1 bz=>by
  obtain⟨F1,bU,o1,n1⟩:=bz;have mA:=UO (.slice (some ⟨gb,off,none⟩) (n+1) bO) hc;refine⟨gN bU mA, ?_⟩;have vp:Hp.H7 (eT g) (hp++ [a]) (n+1) n:=by rw[<-hn];exact hh.push a
  refine(Dh x _ g gb off bO (n+1) (hp++ [a]) (n+1) n w1 F1 (by simp[hn]) mA bU (by simp[hn]) (by omega) vp (by simp;omega)).mono ?_;rintro e w'⟨rfl,aX,hw,Xi,hg⟩;refine⟨rfl,aX,_,hw.perm.trans (List.perm_append_singleton a hp), ?_,ay o1 n1 hg⟩;rw[hw.len,aC,hn];exact Xi
 have RV:n<=16777200:=by omega
 clear h kP hh hn hl cV hc;unfold sf pt at*;go_enter func121,ntmps121;go_wp2_with (first
  |(go_at_call 288;go_must(refine Mh.mono ?_;rintro e w1⟨rfl,gb,off,bO,bz⟩;obtain⟨hcell,Cz⟩:=HAF.out gb off bO w1 bz;have Xu:=fT xS w1 x _ hcell;have Rz:=hide Cz;clear bz hcell Mh hm Cz))
  |(go_at_call 284;go_must(refine(xO _ _ _ _).mono ?_;rintro e w1⟨rfl,rfl⟩))
  |(go_at_call 160;go_must(refine Rz.out.mono ?_;rintro e w2⟨rfl,hx⟩;have Dx:=hide hx;clear hx)))
 go_end0;exact⟨rfl,Dx.out⟩
theorem tS{hp:List At}(hn:hp.length=n+1): ∃l a,hp=l++ [a]∧l.length=n:=by
 have:hp≠ []:=by intro e;simp[e]at hn
 refine⟨hp.dropLast,hp.getLast this,(List.dropLast_concat_getLast this).symm,by simp[hn]⟩
theorem popped{g:Gh}{l:List At}{a:At}(hl:l.length=n)(h:Hp.Heap (eT g) (l++ [a]) n):Hp.Heap (eT g) l l.length:=by subst hl;exact h.mono (af _) (fun k hk=>(List.getElem?_append_left hk).symm)
theorem zS(x:Nat)(cs:Array Value)(g:Gh)(lv:Value)(hp:List At)(i:Nat)(w:World)(F:Ft)(hc:cs[11]?=some lv)(h:(dY x cs g lv hp).holds w F)(hi:i<hp.length)(hh:Hp.Heap (eT g) hp hp.length)(hl:hp.length<=16777200):Calls prog 126 #[sf x, .int .i64 i] w fun e w'=> ∃v aX jw k,e= .returned v∧((hp[i]'hi)::aX).Perm hp∧Hp.Heap (eT g) aX aX.length∧Goes (aa (dY x (cs.setIfInBounds 11 jw) g jw aX) (eN g (hp[i]'hi) k)) w F w':=by
 obtain⟨ao,cap,rfl,cV,ck⟩:=xN h;obtain⟨gb,off,rfl⟩:=ck (by omega);obtain⟨n,hn⟩: ∃n,hp.length=n+1:=⟨hp.length-1,by omega⟩;obtain⟨m,Ub⟩: ∃m,m=n+1:=⟨_,rfl⟩;have mC:((m:Nat):Int)-1=(n:Int):=by omega
 have hnb:n<=16777216:=by omega
 have hmb:m<=16777217:=by omega
 rw[hn,<-Ub]at hc h;obtain⟨a,ha⟩: ∃a,a=hp[i]'hi:=⟨_,rfl⟩;rw[<-ha];have nu:hp[i]?=some a:=by rw[aV hi,ha]
 have S1:=enters_of func284 (by kernel_rfl) rfl;have S4:=enters_of func286 (by kernel_rfl) rfl;have aag:=enters_of func287 (by kernel_rfl) rfl;have hm:=fT xS w x _ (gN h hc);have hmP: ∀w,_:=fun w=>AE NI w x;have Mf:Hid (∀l w1,Goes (dY x cs g (.slice (some ⟨gb,off,none⟩) m cap) (l++ [a])) w F w1->(l++ [a]).Perm hp->l.length=n->Hp.Heap (eT g) (l++ [a]) n->
   Calls prog 287 #[.pointer (some ⟨x,11,none⟩)] w1 fun e w'=> ∃v aX jw k,e= .returned v∧(a::aX).Perm hp∧Hp.Heap (eT g) aX aX.length∧Goes (aa (dY x (cs.setIfInBounds 11 jw) g jw aX) (eN g a k)) w F w'):=fun l w1 bz RY yC BA=>by
  obtain⟨F1,bU,o1,n1⟩:=bz;refine(pop_any x cs g gb off cap m l a w1 F1 (by omega) hc bU (by omega) (by omega)).mono ?_;rintro e w'⟨rfl,hg⟩;exact⟨_,l,_,_,rfl,(List.perm_append_singleton a l).symm.trans RY,popped yC BA,ay o1 n1 hg⟩
 by_cases Pb:n=i
 ·
  obtain⟨l,b,rfl,yC⟩:=tS hn;have hb:b=a:=by rw[<-Pb,List.getElem?_append_right (by omega),yC]at nu;simpa using nu
  subst hb;have HP:=hide (Mf.out l w (Goes.refl h) (List.Perm.refl _) yC (by rw[<-yC];exact hh.mono (by simp) (fun _ _=>rfl)));have HM0:=hide Ub;clear Mf h hh nu ha hc Ub hn cV ck hl;subst Pb;unfold sf at*;go_enter func126,ntmps126;go_wp2_with (first
   |(go_at_call 284;go_must(refine(xO _ _ _ _).mono ?_;rintro e w1⟨rfl,rfl⟩))
   |(go_at_call 287;go_must(refine HP.out.mono ?_;rintro e w2⟨v,aX,jw,k,rfl,hx⟩;have Dx:=hide hx;clear hx)))
  go_ret;obtain⟨h1,h2,h3⟩:=Dx.out;exact⟨_,_,_,_,rfl,h1,h2,h3⟩
 ·
  have V9:=pD (q:=0) (by omega:hp.length=m) h i n hi (by omega) (by omega) (by omega);rw[show w.drewN 0=w from rfl]at V9;have Pv:(Hp.swap hp i n).Perm hp:=Hp.swap_perm (by omega) (by omega);have Pd:(Hp.swap hp i n).length=n+1:=by rw[Hp.rB,hn]
  have zP:Hp.Near (eT g) (Hp.swap hp i n) n i:=Hp.Heap.changed (iq g) (l:=hp) (by omega) (hh.mono (by omega) (fun _ _=>rfl)) (fun k hk Z6=>by rw[Hp.pC (by omega) (by omega),if_neg (by omega),if_neg Z6]);have mN:(Hp.swap hp i n)[n]?=some a:=by rw[Hp.pC (by omega) (by omega),if_pos rfl];exact nu
  have R9:Hid (∀w1,Goes (dY x cs g (.slice (some ⟨gb,off,none⟩) m cap) (Hp.swap hp i n)) w F w1->Calls prog 164 #[sf x, .int .i64 i, .int .i64 n] w1 fun e w'=> ∃b aX,e= .returned (.bool b)∧sI g (Hp.swap hp i n) n i aX b∧Goes (dY x cs g (.slice (some ⟨gb,off,none⟩) m cap) aX) w F w'):=fun w1 bz=>by obtain⟨F1,bU,o1,n1⟩:=bz;refine(zq x cs g gb off cap m (Hp.swap hp i n) n i w1 F1 (by omega) hc bU (by omega) (by omega) zP (by omega)).mono ?_;rintro e w'⟨b,aX,h1,h2,h3⟩;exact⟨b,aX,h1,h2,ay o1 n1 h3⟩
  have jM:Hid (∀aX w1,Way g (Hp.swap hp i n) n aX->Hp.Heap (eT g) aX n->Goes (dY x cs g (.slice (some ⟨gb,off,none⟩) m cap) aX) w F w1->
    Calls prog 287 #[.pointer (some ⟨x,11,none⟩)] w1 fun e w'=> ∃v aX jw k,e= .returned v∧(a::aX).Perm hp∧Hp.Heap (eT g) aX aX.length∧Goes (aa (dY x (cs.setIfInBounds 11 jw) g jw aX) (eN g a k)) w F w'):=fun aX w1 hw BA bz=>by
   have Qz:aX.length=n+1:=by rw[hw.len,Pd]
   obtain⟨l,b,rfl,yC⟩:=tS Qz;have hb:b=a:=by have:=hw.rest n (af _);rw[mN,List.getElem?_append_right (by omega),yC]at this;simpa using this
   subst hb;exact Mf.out l w1 bz (hw.perm.trans Pv) yC BA
  have Rz:Hid (∀w1,sI g (Hp.swap hp i n) n i (Hp.swap hp i n) false->Goes (dY x cs g (.slice (some ⟨gb,off,none⟩) m cap) (Hp.swap hp i n)) w F w1->Calls prog 160 #[sf x, .int .i64 i] w1 fun e w'=>e= .returned (.tuple #[])∧ ∃aX,Way g (Hp.swap hp i n) n aX∧Hp.Heap (eT g) aX n∧Goes (dY x cs g (.slice (some ⟨gb,off,none⟩) m cap) aX) w F w'):=fun w1 hs bz=>by obtain⟨F1,bU,o1,n1⟩:=bz;refine(Dh x cs g gb off cap m (Hp.swap hp i n) n i w1 F1 (by omega) hc bU (by omega) (by omega) ⟨zP,(hs.2.2 rfl).2⟩ (by omega)).mono ?_;rintro e w'⟨rfl,aX,hw,Xi,hg⟩;exact⟨rfl,aX,hw,Xi,ay o1 n1 hg⟩
  have Vt:=fT ug w x _ (gN h hc);have hni:i<n:=by omega
  have HM0:=hide Ub;clear Mf h hh nu ha hc Pv Pd zP mN hl cV ck Ub hn hi;unfold sf at*;go_enter func126,ntmps126;go_wp2_with (first
   |(go_at_call 284;go_must(refine(xO _ _ _ _).mono ?_;rintro e w1⟨rfl,rfl⟩))
   |(go_at_call 286;go_must(refine V9.mono ?_;rintro e w1⟨rfl,bz⟩;have Sj:=hide bz;clear bz V9 hm Vt))
   |(go_at_call 164;go_must(refine(R9.out _ Sj.out).mono ?_;rintro e w2⟨b,aX,rfl,hs,bz⟩;have Mi:=hide hs;have yv:=hide bz;clear hs bz R9 Sj;cases b))
   |(go_at_call 160;go_must(have e1:=(Mi.out.2.2 rfl).1;subst e1;refine(Rz.out _ Mi.out yv.out).mono ?_;rintro e w3⟨rfl,aX,hw,hh,bz⟩;have HP:=hide (jM.out _ _ hw hh bz);clear hw hh bz Rz Mi yv))
   |(go_at_call 287;go_must(first|(refine HP.out.mono ?_;rintro e w4⟨v,aX,jw,k,rfl,hx⟩;have Dx:=hide hx;clear hx)|(refine(jM.out _ _ Mi.out.1 (Mi.out.2.1 rfl) yv.out).mono ?_;rintro e w4⟨v,aX,jw,k,rfl,hx⟩;have Dx:=hide hx;clear hx))))
  all_goals go_ret
  all_goals obtain⟨h1,h2,h3⟩:=Dx.out
  all_goals exact⟨_,_,_,_,rfl,h1,h2,h3⟩
