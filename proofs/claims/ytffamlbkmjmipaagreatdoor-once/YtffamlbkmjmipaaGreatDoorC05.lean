import Derived.Test.YtffamlbkmjmipaaGreatDoorC04
set_option maxHeartbeats 8000000
set_option maxRecDepth 100000
namespace Go.Proofs.YtffamlbkmjmipaaGreatDoor
open _root_.Go.Proofs.Tryz
namespace Pj
open Go.RowKit aJ Mc
attribute [local go_sem] ae ag
variable{g off n cap:Nat}{xs:List Value}{w:World}{F:Ft}
theorem Bq(ao:Option Addr)(n cap:Nat)(w:World):Calls prog 284 #[.slice ao n cap] w fun e w'=>e= .returned (.int .i64 n)∧w'=w:=by go_enter func284,ntmps284;go_wp2;go_ret;exact⟨rfl,rfl⟩
theorem jB{e:TypeId}(h:(rowA e 1 (.slice (some ⟨g,off,none⟩) n cap) n xs).holds w F)(m:Nat)(hm:m<=n):(rowA e 1 (.slice (some ⟨g,off,none⟩) m cap) m (xs.take m)).holds w F:=by
 have hl:=rX h;rcases h.2 with⟨h0,_⟩|⟨g',rU,bP,cur,hv,hF,hg,hn,zr,dc,ht⟩
 ·cases h0
 ·cases hv;refine⟨by rw[List.length_take];omega, .inr ⟨g,off,cap,cur,rfl,hF,hg,by omega,zr,dc, ?_⟩⟩;rw[<-ht,List.take_take];congr 1;omega
theorem nR{e:TypeId}(h:(rowA e 1 (.slice (some ⟨g,off,none⟩) n cap) n xs).holds w F)(c:Nat)(h1:n<=c)(h2:c<=cap):(rowA e 1 (.slice (some ⟨g,off,none⟩) n c) n xs).holds w F:=by
 rcases h.2 with⟨h0,_⟩|⟨g',rU,bP,cur,hv,hF,hg,hn,zr,dc,ht⟩
 ·cases h0
 ·cases hv;exact⟨h.1, .inr ⟨g,off,c,cur,rfl,hF,hg,h1,by omega,by omega,ht⟩⟩
theorem IW(g:Gh)(hp:List At)(a:At):hpA g (hp++ [a])=aa (hpA g hp) (fH g a hp.length):=by unfold hpA;rw[List.zipIdx_append,all_append];congr 1;show all _ [(a,0+hp.length)]=_;rw[AO,Nat.zero_add]
theorem Qw{x:Nat}{cs:Array Value}{g:Gh}{gb:Nat}{hp:List At}{a:At}(h:(fA x cs g (.slice (some ⟨gb,off,none⟩) (hp.length+1) cap) (hp++ [a])).holds w F):Goes (aa (fA x (cs.setIfInBounds 11 (.slice (some ⟨gb,off,none⟩) hp.length cap)) g (.slice (some ⟨gb,off,none⟩) hp.length cap) hp) (fH g a hp.length)) w F ((w.setCell ⟨gb,off+hp.length,none⟩ (.pointer none)).setCell ⟨x,11,none⟩ (.slice (some ⟨gb,off,none⟩) hp.length cap)):=by
 unfold fA zB at h⊢;rw[IW]at h;have h1:(aa (dh g (.slice (some ⟨gb,off,none⟩) (hp.length+1) cap) (hp++ [a])) (aa (blk x (.cells cs 88 (0,0))) (aa (hpA g hp) (fH g a hp.length)))).holds w F:=by
  have e:aa (dh g (.slice (some ⟨gb,off,none⟩) (hp.length+1) cap) (hp++ [a])) (aa (blk x (.cells cs 88 (0,0))) (aa (hpA g hp) (fH g a hp.length)))=aa (blk x (.cells cs 88 (0,0))) (aa (dh g (.slice (some ⟨gb,off,none⟩) (hp.length+1) cap) (hp++ [a])) (aa (hpA g hp) (fH g a hp.length))):=by ac_rfl
  rw[e];exact h
 have s1:=Goes.frame (A':=dh g (.slice (some ⟨gb,off,none⟩) hp.length cap) hp) (w':=w.setCell ⟨gb,off+hp.length,none⟩ (.pointer none)) h1 (fun G hG _=>by
  unfold dh at hG;simp only[aH,List.length_cons,List.length_nil,Nat.zero_add]at hG;refine(cO hG hp.length (.pointer none) (by omega)).mono fun F' pW=> ?_;have:=jB pW hp.length (by omega);unfold dh;rw[List.take_set_of_le (af _)]at this;have e2:((hp++ [a]).map fun a=>pt (g.ap (key a))).take hp.length=hp.map fun a=>pt (g.ap (key a)):=by rw[aD,List.take_left' (by simp)]
  rw[e2]at this;exact this)
 have s2:=(s1.eq (show _=aa (blk x (.cells cs 88 (0,0))) (aa (dh g (.slice (some ⟨gb,off,none⟩) hp.length cap) hp) (aa (hpA g hp) (fH g a hp.length)))by ac_rfl)).store 11 (.slice (some ⟨gb,off,none⟩) hp.length cap);exact s2.eq (by ac_rfl)
theorem pop_any(x:Nat)(cs:Array Value)(g:Gh)(gb off cap n0:Nat)(hp:List At)(a:At)(w:World)(F:Ft)(NM:hp.length+1=n0)(hc:cs[11]?=some (.slice (some ⟨gb,off,none⟩) n0 cap))(h:(fA x cs g (.slice (some ⟨gb,off,none⟩) n0 cap) (hp++ [a])).holds w F)(hl:hp.length<=16777216)(cX:n0<=cap):Calls prog 287 #[.pointer (some ⟨x,11,none⟩)] w fun e w'=>e= .returned (.iface 127 (pt (g.ap (key a))))∧Goes (aa (fA x (cs.setIfInBounds 11 (.slice (some ⟨gb,off,none⟩) hp.length cap)) g (.slice (some ⟨gb,off,none⟩) hp.length cap) hp) (fH g a hp.length)) w F w':=by
 subst NM;have c11:=iB h hc;have f11:w.frozen? ⟨x,11,none⟩=false:=by have:=(cK h).1;simp only[World.frozen?,this];simp
 have HG:Hid (Goes (aa (fA x (cs.setIfInBounds 11 (.slice (some ⟨gb,off,none⟩) hp.length cap)) g (.slice (some ⟨gb,off,none⟩) hp.length cap) hp) (fH g a hp.length)) w F
   ((w.setCell ⟨gb,off+hp.length,none⟩ (.pointer none)).setCell ⟨x,11,none⟩ (.slice (some ⟨gb,off,none⟩) hp.length cap))):=Qw h
 obtain⟨c1,f1,cA⟩:w.cell? ⟨gb,off+hp.length,none⟩=some (.pointer (some ⟨g.ap (key a),0,none⟩))∧w.frozen? ⟨gb,off+hp.length,none⟩=false∧gb≠x:=by
  obtain⟨G,H,ha,⟨G1,H1,hb,_,_,e1⟩,d,e⟩:=h;unfold dh at hb;have iI:(rowA 127 1 (.slice (some ⟨gb,off,none⟩) (hp.length+1) cap) (hp.length+1) ((hp++ [a]).map fun a=>pt (g.ap (key a)))).holds w G1:=by simpa using hb
  refine⟨?_,dw iI _,fun e2=>d x ((ha.2 x).2 rfl) ((e1 x).2 (.inl (e2▸(mf iI).2)))⟩;rw[bf iI _ (by omega)];simp[pt]
 have aak:(w.setCell ⟨gb,off+hp.length,none⟩ (.pointer none)).cell? ⟨x,11,none⟩=some (.slice (some ⟨gb,off,none⟩) (hp.length+1) cap):=by rw[World.cell?_setCell_far _ _ _ _ cA];exact c11
 clear h;unfold pt;generalize g.ap (key a)=ap at*;have BX:(0:Int)<=((hp.length:Nat):Int):=by omega
 generalize hp.length=n at*;go_enter func287,ntmps287;go_wp2;go_ret;exact⟨rfl,HG.out⟩
theorem GK:(prog.info? 127).map (fun i=>(i.zero,i.size,i.bytes))=some (some (.pointer none),1,8):=by kernel_rfl
theorem fQ{t:TypeId}{z:Value}{a b:Nat}(h:(prog.info? t).map (fun i=>(i.zero,i.size,i.bytes))=some (some z,a,b)): ∃i,prog.info? t=some i∧i.zero=some z∧i.size=a∧i.bytes=b:=by
 cases hi:prog.info? t with
 |none=>rw[hi]at h;cases h
 |some i=>rw[hi]at h;simp only[Option.map_some,Option.some.injEq,Prod.mk.injEq]at h;exact⟨i,rfl,h.1,h.2.1,h.2.2⟩
theorem Mk(v:Value)(w:World):(Instr.typeAssert (.iface 127 v) 20 127 false).run prog w= .ok v w:=by kernel_rfl
theorem push_any(x:Nat)(cs:Array Value)(g:Gh)(ao:Option Addr)(cap n0 k0:Nat)(hp:List At)(a:At)(w:World)(F:Ft)(NM:hp.length=n0)(hc:cs[11]?=some (.slice ao n0 cap))(h:(aa (fA x cs g (.slice ao n0 cap) hp) (fH g a k0)).holds w F)(hl:hp.length<=16777216):Calls prog 288 #[.pointer (some ⟨x,11,none⟩), .iface 127 (pt (g.ap (key a)))] w fun e w'=>e= .returned (.tuple #[])∧ ∃gb off bP,Goes (fA x (cs.setIfInBounds 11 (.slice (some ⟨gb,off,none⟩) (n0+1) bP)) g (.slice (some ⟨gb,off,none⟩) (n0+1) bP) (hp++ [a])) w F w':=by
 obtain⟨i0,jo,mz,ja,jK⟩:=fQ GK;have h1:(aa (blk x (.cells cs 88 (0,0))) (aa (dh g (.slice ao n0 cap) hp) (aa (hpA g hp) (fH g a k0)))).holds w F:=by
  have e:aa (blk x (.cells cs 88 (0,0))) (aa (dh g (.slice ao n0 cap) hp) (aa (hpA g hp) (fH g a k0)))=aa (fA x cs g (.slice ao n0 cap) hp) (fH g a k0):=by unfold fA zB;ac_rfl
  rw[e];exact h
 have vv:=(cK h1).1;have c11:w.cell? ⟨x,11,none⟩=some (.slice ao n0 cap):=by simp only[World.cell?,vv];exact hc
 have f11:w.frozen? ⟨x,11,none⟩=false:=by simp only[World.frozen?,vv];simp
 have h2:(aa (fH g a k0) (aa (blk x (.cells cs 88 (0,0))) (aa (dh g (.slice ao n0 cap) hp) (hpA g hp)))).holds w F:=by
  have e:aa (fH g a k0) (aa (blk x (.cells cs 88 (0,0))) (aa (dh g (.slice ao n0 cap) hp) (hpA g hp)))=aa (blk x (.cells cs 88 (0,0))) (aa (dh g (.slice ao n0 cap) hp) (aa (hpA g hp) (fH g a k0))):=by ac_rfl
  rw[e];exact h1
 have bT:=(cK h2).1;have hxa:g.ap (key a)≠x:=MI h2;have c6:w.cell? ⟨g.ap (key a),6,none⟩=some (.int .i64 k0):=by simp only[World.cell?,bT];rfl
 have f6:w.frozen? ⟨g.ap (key a),6,none⟩=false:=by simp only[World.frozen?,bT];simp
 have HS:Hid (Goes (aa (dh g (.slice ao n0 cap) hp) (aa (blk x (.cells cs 88 (0,0))) (aa (hpA g hp) (fH g a n0)))) w F ((w.setCell ⟨g.ap (key a),6,none⟩ (.int .i64 n0)).alloc (.cells #[.pointer (some ⟨g.ap (key a),0,none⟩)] 127))):=by
  have s1:=(Goes.refl h2).store 6 (.int .i64 n0);refine(s1.dA _).eq ?_;show aa (fH g a n0) (aa (blk x (.cells cs 88 (0,0))) (aa (dh g (.slice ao n0 cap) hp) (hpA g hp)))=_
  ac_rfl
 obtain⟨W1,um⟩: ∃W1,W1=(w.setCell ⟨g.ap (key a),6,none⟩ (.int .i64 n0)).alloc (.cells #[.pointer (some ⟨g.ap (key a),0,none⟩)] 127):=⟨_,rfl⟩;have dc:(w.setCell ⟨g.ap (key a),6,none⟩ (.int .i64 n0)).heap.size=w.heap.size:=by simp[World.setCell]
 have RL:=HS.out;rw[<-um]at RL;obtain⟨F1,bU,o1,n1⟩:=RL;have Xf:=bU;obtain⟨G,H,ha,hb,d,e⟩:=bU;have V3:W1.heap[w.heap.size]?=some (.cells #[.pointer (some ⟨g.ap (key a),0,none⟩)] 127 (0,0)):=by rw[um,<-dc];exact heap_alloc_new _ _
 have jf:Hid ((rowA 127 1 (.slice ao n0 cap) n0 (hp.map fun a=>pt (g.ap (key a)))).holds W1 G):=by unfold dh at ha;rw[NM]at ha;exact ha
 have HX:Hid (∀fX vn w2,Goes (rowA 127 1 (.slice fX (n0+1) vn) (n0+1) ((hp.map fun a=>pt (g.ap (key a)))++ [.pointer (some ⟨g.ap (key a),0,none⟩)])) W1 G w2->
   w2.cell? ⟨x,11,none⟩=some (.slice ao n0 cap)∧w2.frozen? ⟨x,11,none⟩=false∧ ∃gb off,fX=some ⟨gb,off,none⟩∧
   Goes (fA x (cs.setIfInBounds 11 (.slice (some ⟨gb,off,none⟩) (n0+1) vn)) g (.slice (some ⟨gb,off,none⟩) (n0+1) vn) (hp++ [a])) w F (w2.setCell ⟨x,11,none⟩ (.slice fX (n0+1) vn))):=fun fX vn w2 bE=>by
  have s2:=aC o1 n1 (aO hb bE d e);obtain⟨F2,gV,o2,n2⟩:=s2;have Zm: ∃gb off,fX=some ⟨gb,off,none⟩:=by obtain⟨G2,BP,_⟩:=aJ.left gV;obtain⟨_,_,e1,_,_,h4,_⟩:=bX BP;cases e1;obtain⟨g',rU,e2,_⟩:=h4 (by omega);exact⟨g',rU,e2⟩
  obtain⟨gb,off,rfl⟩:=Zm;have mB:(aa (blk x (.cells cs 88 (0,0))) (aa (rowA 127 1 (.slice (some ⟨gb,off,none⟩) (n0+1) vn) (n0+1) ((hp.map fun a=>pt (g.ap (key a)))++ [.pointer (some ⟨g.ap (key a),0,none⟩)])) (aa (hpA g hp) (fH g a n0)))).holds w2 F2:=by rw[cD];exact gV
  have cZ:=(cK mB).1;refine⟨by simp only[World.cell?,cZ];exact hc,by simp only[World.frozen?,cZ];simp,gb,off,rfl, ?_⟩;have s4:=Goes.store (A:=_) (w:=w) (F:=F) ⟨F2,mB,o2,n2⟩ 11 (.slice (some ⟨gb,off,none⟩) (n0+1) vn);refine s4.eq ?_;unfold fA zB dh;rw[IW,aD,aH,NM];rfl
 clear h h1 h2 vv bT ha hb Xf o1 n1 d e HS;have aak:(w.setCell ⟨g.ap (key a),6,none⟩ (.int .i64 n0)).cell? ⟨x,11,none⟩=some (.slice ao n0 cap):=by rw[World.cell?_setCell_far _ _ _ _ hxa];exact c11
 unfold pt at jf HX⊢;generalize g.ap (key a)=ap at*;have hlen:n0<=16777216:=by omega
 have HN0:Hid (hp.length=n0):=NM;have HW1:Hid (W1=(w.setCell ⟨ap,6,none⟩ (.int .i64 n0)).alloc (.cells #[.pointer (some ⟨ap,0,none⟩)] 127)):=um;clear NM hl um;have hta: ∀w,_:=fun w=>Mk (.pointer (some ⟨ap,0,none⟩)) w;go_enter func288,ntmps288;go_wp2_with (at_builtin;go_must(rw[<-HW1.out];refine aT _ rfl _ _ 86 rfl 127 i0 (.pointer none) 1 8 underlying86 jo mz ja jK rfl (by decide) (F:=G) _ n0 _ rfl jf.out ⟨w.heap.size,0,none⟩ 1 1 [.pointer (some ⟨ap,0,none⟩)] rfl rfl (World.news_of_block (cs:= #[.pointer (some ⟨ap,0,none⟩)]) (t:=127) (fr:=(0,0)) V3) (by simp[Value.oneCell']) (by unfold maxLen;omega) (by omega) ?main))
 case main=>intro fX vn w2 bE;obtain⟨c2,f2,gb,off,rfl,NJ⟩:=HX.out fX vn w2 bE;have mD:Hid _:=NJ;clear bE NJ;go_wp2;go_end0;exact⟨rfl,gb,off,vn,mD.out⟩
variable{cs:Array Value}
theorem hide{p:Prop}(h:p):Hid p:=h
theorem Bp{x:Nat}{g:Gh}{lv:Value}{hp:List At}{w:World}{F:Ft}(h:(fA x cs g lv hp).holds w F): ∃ao cap,lv= .slice ao hp.length cap∧hp.length<=cap∧(0<hp.length-> ∃gb off,ao=some ⟨gb,off,none⟩):=by obtain⟨G,hG⟩:=UT h;obtain⟨ao,cap,h1,h2,_,h3⟩:=Tc hG;exact⟨ao,cap,h1,h2,h3⟩
theorem Z6{u:Value}(v:Value)(h:cs[11]?=some u):(cs.setIfInBounds 11 v)[11]?=some v:=by have:=(cC.1 h).1;rw[Array.getElem?_setIfInBounds_self_of_lt this]
theorem Ss(x:Nat)(cs:Array Value)(g:Gh)(lv:Value)(hp:List At)(i:Nat)(w:World)(F:Ft)(hc:cs[11]?=some lv)(h:(fA x cs g lv hp).holds w F)(hi:i<hp.length)(hu:Hp.Near (fJ g) hp hp.length i)(hl:hp.length<=16777216):Calls prog 185 #[vy x, .int .i64 i] w fun e w'=>e= .returned (.tuple #[])∧ ∃ba,ba.Perm hp∧Hp.Heap (fJ g) ba ba.length∧Goes (fA x cs g lv ba) w F w':=by
 obtain⟨ao,cap,rfl,cX,bQ⟩:=Bp h;obtain⟨gb,off,rfl⟩:=bQ (by omega);obtain⟨n,hn⟩: ∃n,hp.length=n:=⟨_,rfl⟩;rw[hn]at hc h;have X0:=CF x cs g gb off cap n hp n i w F hn hc h (by omega) (by omega) (hn▸hu) hl;have Xh:Hid (∀w1,vK g hp n i hp false->Goes (fA x cs g (.slice (some ⟨gb,off,none⟩) n cap) hp) w F w1->Calls prog 160 #[vy x, .int .i64 i] w1 fun e w'=>e= .returned (.tuple #[])∧ ∃ba,ba.Perm hp∧Hp.Heap (fJ g) ba ba.length∧Goes (fA x cs g (.slice (some ⟨gb,off,none⟩) n cap) ba) w F w'):=fun w1 hs bE=>by obtain⟨F1,bU,o1,n1⟩:=bE;have zy:Hp.Mf (fJ g) hp n i:=⟨hn▸hu,(hs.2.2 rfl).2⟩;refine(Hz x cs g gb off cap n hp n i w1 F1 hn hc bU (by omega) (by omega) zy hl).mono ?_;rintro e w'⟨rfl,ba,hw,hh,hg⟩;exact⟨rfl,ba,hw.perm,by rw[hw.len,hn];exact hh,aC o1 n1 hg⟩
 have hm:=gF Bv w x _ (iB h hc);have YP:=enters_of func284 (by kernel_rfl) rfl;have HLN:Hid (hp.length=n):=hn;have aae:Hid (∀w1 ba,vK g hp n i ba true->Goes (fA x cs g (.slice (some ⟨gb,off,none⟩) n cap) ba) w F w1-> ∃ba,ba.Perm hp∧Hp.Heap (fJ g) ba ba.length∧Goes (fA x cs g (.slice (some ⟨gb,off,none⟩) n cap) ba) w F w1):=fun w1 ba hs bE=>⟨ba,hs.1.perm,by rw[hs.1.len,hn];exact hs.2.1 rfl,bE⟩;rw[hn];clear hu h hn hi hl cX bQ;unfold vy at*;go_enter func185,ntmps185;go_wp2_with (first
  |(go_at_call 284;go_must(refine(Bq _ _ _ _).mono ?_;rintro e w1⟨rfl,rfl⟩))
  |(go_at_call 164;go_must(refine X0.mono ?_;rintro e w1⟨b,ba,rfl,hs,bE⟩;have RM:=hide hs;have BN:=hide bE;clear hs bE X0;cases b))
  |(go_at_call 160;go_must(have e1:=(RM.out.2.2 rfl).1;subst e1;refine(Xh.out _ RM.out BN.out).mono ?_;rintro e w2⟨rfl,hx⟩;have Mb:=hide hx;clear hx)))
 all_goals go_end0
 ·exact⟨rfl,Mb.out⟩
 ·exact⟨rfl,aae.out _ _ RM.out BN.out⟩
variable{n:Nat}
def kg(w:World)(p:Nat):Prop:= ∃cs t,w.heap[p]?=some (.cells cs t (0,0))
theorem vx{κ:Type}{l:List κ}{x:κ}(h:l[0]?=some x): ∃t,l=x::t:=by
 cases l with
 |nil=>simp at h
 |cons y t=>simp at h;exact⟨t,by rw[h]⟩
theorem ko{κ:Type} [DecidableEq κ]{l:List κ}{i:Nat}{x:κ}(h:l[i]?=some x)(hb: ∀k,k<i->l[k]?≠some x):l.erase x=l.eraseIdx i:=by
 induction l generalizing i with
 |nil=>simp at h
 |cons y l ih=>
  match i with
  |0=>simp at h;subst h;simp
  |i+1=>have cA:y≠x:=fun e=>hb 0 (by omega) (by simp[e]);rw[List.erase_cons_tail (by simpa using cA),List.eraseIdx_cons_succ,ih (by simpa using h) (fun k hk=>by simpa using hb (k+1) (by omega))]
theorem Ks(x:Nat)(cs:Array Value)(g:Gh)(lv:Value)(hp:List At)(a:At)(k0:Nat)(w:World)(F:Ft)(hc:cs[11]?=some lv)(h:(aa (fA x cs g lv hp) (fH g a k0)).holds w F)(hh:Hp.Heap (fJ g) hp hp.length)(hl:hp.length<=16777200):Calls prog 121 #[vy x, .iface 127 (pt (g.ap (key a)))] w fun e w'=>e= .returned (.tuple #[])∧ ∃ba kt,ba.Perm (a::hp)∧Hp.Heap (fJ g) ba ba.length∧Goes (fA x (cs.setIfInBounds 11 kt) g kt ba) w F w':=by
 have hlo: ∃G,(fA x cs g lv hp).holds w G:=by obtain⟨G,hG,_⟩:=aJ.left h;exact⟨G,hG⟩
 obtain⟨G0,mv⟩:=hlo;obtain⟨ao,cap,rfl,cX,_⟩:=Bp mv;obtain⟨n,hn⟩: ∃n,hp.length=n:=⟨_,rfl⟩;rw[hn]at hc h;have RJ:=push_any x cs g ao cap n k0 hp a w F hn hc h (by omega);have hm:=DG P7 w x;have YP:=enters_of func284 (by kernel_rfl) rfl;have abx:=enters_of func288 (by kernel_rfl) rfl;have HAF:Hid (∀gb off bP w1,Goes (fA x (cs.setIfInBounds 11 (.slice (some ⟨gb,off,none⟩) (n+1) bP)) g (.slice (some ⟨gb,off,none⟩) (n+1) bP) (hp++ [a])) w F w1->
   w1.cell? ⟨x,11,none⟩=some (.slice (some ⟨gb,off,none⟩) (n+1) bP)∧
   Calls prog 160 #[vy x, .int .i64 n] w1 fun e w'=>e= .returned (.tuple #[])∧ ∃ba kt,ba.Perm (a::hp)∧Hp.Heap (fJ g) ba ba.length∧Goes (fA x (cs.setIfInBounds 11 kt) g kt ba) w F w'):=fun gb off bP w1 bE=>by
  obtain⟨F1,bU,o1,n1⟩:=bE;have uq:=Z6 (.slice (some ⟨gb,off,none⟩) (n+1) bP) hc;refine⟨iB bU uq, ?_⟩;have zy:Hp.Mf (fJ g) (hp++ [a]) (n+1) n:=by rw[<-hn];exact hh.push a
  refine(Hz x _ g gb off bP (n+1) (hp++ [a]) (n+1) n w1 F1 (by simp[hn]) uq bU (by simp[hn]) (by omega) zy (by simp;omega)).mono ?_;rintro e w'⟨rfl,ba,hw,hh',hg⟩;refine⟨rfl,ba,_,hw.perm.trans (List.perm_append_singleton a hp), ?_,aC o1 n1 hg⟩;rw[hw.len,aH,hn];exact hh'
 have Xy:n<=16777200:=by omega
 clear h mv hh hn hl cX hc;unfold vy pt at*;go_enter func121,ntmps121;go_wp2_with (first
  |(go_at_call 288;go_must(refine RJ.mono ?_;rintro e w1⟨rfl,gb,off,bP,bE⟩;obtain⟨hcell,Kv⟩:=HAF.out gb off bP w1 bE;have hm1:=gF Bv w1 x _ hcell;have Xh:=hide Kv;clear bE hcell RJ hm Kv))
  |(go_at_call 284;go_must(refine(Bq _ _ _ _).mono ?_;rintro e w1⟨rfl,rfl⟩))
  |(go_at_call 160;go_must(refine Xh.out.mono ?_;rintro e w2⟨rfl,hx⟩;have Mb:=hide hx;clear hx)))
 go_end0;exact⟨rfl,Mb.out⟩
theorem yj{hp:List At}(hn:hp.length=n+1): ∃l a,hp=l++ [a]∧l.length=n:=by
 have:hp≠ []:=by intro e;simp[e]at hn
 refine⟨hp.dropLast,hp.getLast this,(List.dropLast_concat_getLast this).symm,by simp[hn]⟩
theorem popped{g:Gh}{l:List At}{a:At}(hl:l.length=n)(h:Hp.Heap (fJ g) (l++ [a]) n):Hp.Heap (fJ g) l l.length:=by subst hl;exact h.mono (af _) (fun k hk=>(List.getElem?_append_left hk).symm)
theorem C8(x:Nat)(cs:Array Value)(g:Gh)(lv:Value)(hp:List At)(i:Nat)(w:World)(F:Ft)(hc:cs[11]?=some lv)(h:(fA x cs g lv hp).holds w F)(hi:i<hp.length)(hh:Hp.Heap (fJ g) hp hp.length)(hl:hp.length<=16777200):Calls prog 126 #[vy x, .int .i64 i] w fun e w'=> ∃v ba kt k,e= .returned v∧((hp[i]'hi)::ba).Perm hp∧Hp.Heap (fJ g) ba ba.length∧Goes (aa (fA x (cs.setIfInBounds 11 kt) g kt ba) (fH g (hp[i]'hi) k)) w F w':=by
 obtain⟨ao,cap,rfl,cX,bQ⟩:=Bp h;obtain⟨gb,off,rfl⟩:=bQ (by omega);obtain⟨n,hn⟩: ∃n,hp.length=n+1:=⟨hp.length-1,by omega⟩;obtain⟨m,Zz⟩: ∃m,m=n+1:=⟨_,rfl⟩;have oq:((m:Nat):Int)-1=(n:Int):=by omega
 have hnb:n<=16777216:=by omega
 have hmb:m<=16777217:=by omega
 rw[hn,<-Zz]at hc h;obtain⟨a,ha⟩: ∃a,a=hp[i]'hi:=⟨_,rfl⟩;rw[<-ha];have pY:hp[i]?=some a:=by rw[aY hi,ha]
 have YP:=enters_of func284 (by kernel_rfl) rfl;have YQ:=enters_of func286 (by kernel_rfl) rfl;have abw:=enters_of func287 (by kernel_rfl) rfl;have hm:=gF Bv w x _ (iB h hc);have hmP: ∀w,_:=fun w=>DG Th w x;have RI:Hid (∀l w1,Goes (fA x cs g (.slice (some ⟨gb,off,none⟩) m cap) (l++ [a])) w F w1->(l++ [a]).Perm hp->l.length=n->Hp.Heap (fJ g) (l++ [a]) n->
   Calls prog 287 #[.pointer (some ⟨x,11,none⟩)] w1 fun e w'=> ∃v ba kt k,e= .returned v∧(a::ba).Perm hp∧Hp.Heap (fJ g) ba ba.length∧Goes (aa (fA x (cs.setIfInBounds 11 kt) g kt ba) (fH g a k)) w F w'):=fun l w1 bE Xz BV EA=>by
  obtain⟨F1,bU,o1,n1⟩:=bE;refine(pop_any x cs g gb off cap m l a w1 F1 (by omega) hc bU (by omega) (by omega)).mono ?_;rintro e w'⟨rfl,hg⟩;exact⟨_,l,_,_,rfl,(List.perm_append_singleton a l).symm.trans Xz,popped BV EA,aC o1 n1 hg⟩
 by_cases Uy:n=i
 ·
  obtain⟨l,b,rfl,BV⟩:=yj hn;have hb:b=a:=by rw[<-Uy,List.getElem?_append_right (by omega),BV]at pY;simpa using pY
  subst hb;have HP:=hide (RI.out l w (Goes.refl h) (List.Perm.refl _) BV (by rw[<-BV];exact hh.mono (by simp) (fun _ _=>rfl)));have HM0:=hide Zz;clear RI h hh pY ha hc Zz hn cX bQ hl;subst Uy;unfold vy at*;go_enter func126,ntmps126;go_wp2_with (first
   |(go_at_call 284;go_must(refine(Bq _ _ _ _).mono ?_;rintro e w1⟨rfl,rfl⟩))
   |(go_at_call 287;go_must(refine HP.out.mono ?_;rintro e w2⟨v,ba,kt,k,rfl,hx⟩;have Mb:=hide hx;clear hx)))
  go_ret;obtain⟨h1,h2,h3⟩:=Mb.out;exact⟨_,_,_,_,rfl,h1,h2,h3⟩
 ·
  have HSW:=sw (q:=0) (by omega:hp.length=m) h i n hi (by omega) (by omega) (by omega);rw[show w.drewN 0=w from rfl]at HSW;have UN:(Hp.swap hp i n).Perm hp:=Hp.swap_perm (by omega) (by omega);have UA:(Hp.swap hp i n).length=n+1:=by rw[Hp.uP,hn]
  have C6:Hp.Near (fJ g) (Hp.swap hp i n) n i:=Hp.Heap.changed (iT g) (l:=hp) (by omega) (hh.mono (by omega) (fun _ _=>rfl)) (fun k hk hki=>by rw[Hp.su (by omega) (by omega),if_neg (by omega),if_neg hki]);have C5:(Hp.swap hp i n)[n]?=some a:=by rw[Hp.su (by omega) (by omega),if_pos rfl];exact pY
  have X0:Hid (∀w1,Goes (fA x cs g (.slice (some ⟨gb,off,none⟩) m cap) (Hp.swap hp i n)) w F w1->Calls prog 164 #[vy x, .int .i64 i, .int .i64 n] w1 fun e w'=> ∃b ba,e= .returned (.bool b)∧vK g (Hp.swap hp i n) n i ba b∧Goes (fA x cs g (.slice (some ⟨gb,off,none⟩) m cap) ba) w F w'):=fun w1 bE=>by obtain⟨F1,bU,o1,n1⟩:=bE;refine(CF x cs g gb off cap m (Hp.swap hp i n) n i w1 F1 (by omega) hc bU (by omega) (by omega) C6 (by omega)).mono ?_;rintro e w'⟨b,ba,h1,h2,h3⟩;exact⟨b,ba,h1,h2,aC o1 n1 h3⟩
  have kJ:Hid (∀ba w1,Way g (Hp.swap hp i n) n ba->Hp.Heap (fJ g) ba n->Goes (fA x cs g (.slice (some ⟨gb,off,none⟩) m cap) ba) w F w1->
    Calls prog 287 #[.pointer (some ⟨x,11,none⟩)] w1 fun e w'=> ∃v ba kt k,e= .returned v∧(a::ba).Perm hp∧Hp.Heap (fJ g) ba ba.length∧Goes (aa (fA x (cs.setIfInBounds 11 kt) g kt ba) (fH g a k)) w F w'):=fun ba w1 hw EA bE=>by
   have V1:ba.length=n+1:=by rw[hw.len,UA]
   obtain⟨l,b,rfl,BV⟩:=yj V1;have hb:b=a:=by have:=hw.rest n (af _);rw[C5,List.getElem?_append_right (by omega),BV]at this;simpa using this
   subst hb;exact RI.out l w1 bE (hw.perm.trans UN) BV EA
  have Xh:Hid (∀w1,vK g (Hp.swap hp i n) n i (Hp.swap hp i n) false->Goes (fA x cs g (.slice (some ⟨gb,off,none⟩) m cap) (Hp.swap hp i n)) w F w1->Calls prog 160 #[vy x, .int .i64 i] w1 fun e w'=>e= .returned (.tuple #[])∧ ∃ba,Way g (Hp.swap hp i n) n ba∧Hp.Heap (fJ g) ba n∧Goes (fA x cs g (.slice (some ⟨gb,off,none⟩) m cap) ba) w F w'):=fun w1 hs bE=>by obtain⟨F1,bU,o1,n1⟩:=bE;refine(Hz x cs g gb off cap m (Hp.swap hp i n) n i w1 F1 (by omega) hc bU (by omega) (by omega) ⟨C6,(hs.2.2 rfl).2⟩ (by omega)).mono ?_;rintro e w'⟨rfl,ba,hw,hh',hg⟩;exact⟨rfl,ba,hw,hh',aC o1 n1 hg⟩
  have hmS:=gF yx w x _ (iB h hc);have hni:i<n:=by omega
  have HM0:=hide Zz;clear RI h hh pY ha hc UN UA C6 C5 hl cX bQ Zz hn hi;unfold vy at*;go_enter func126,ntmps126;go_wp2_with (first
   |(go_at_call 284;go_must(refine(Bq _ _ _ _).mono ?_;rintro e w1⟨rfl,rfl⟩))
   |(go_at_call 286;go_must(refine HSW.mono ?_;rintro e w1⟨rfl,bE⟩;have X6:=hide bE;clear bE HSW hm hmS))
   |(go_at_call 164;go_must(refine(X0.out _ X6.out).mono ?_;rintro e w2⟨b,ba,rfl,hs,bE⟩;have RM:=hide hs;have BN:=hide bE;clear hs bE X0 X6;cases b))
   |(go_at_call 160;go_must(have e1:=(RM.out.2.2 rfl).1;subst e1;refine(Xh.out _ RM.out BN.out).mono ?_;rintro e w3⟨rfl,ba,hw,hh,bE⟩;have HP:=hide (kJ.out _ _ hw hh bE);clear hw hh bE Xh RM BN))
   |(go_at_call 287;go_must(first|(refine HP.out.mono ?_;rintro e w4⟨v,ba,kt,k,rfl,hx⟩;have Mb:=hide hx;clear hx)|(refine(kJ.out _ _ RM.out.1 (RM.out.2.1 rfl) BN.out).mono ?_;rintro e w4⟨v,ba,kt,k,rfl,hx⟩;have Mb:=hide hx;clear hx))))
  all_goals go_ret
  all_goals obtain⟨h1,h2,h3⟩:=Mb.out
  all_goals exact⟨_,_,_,_,rfl,h1,h2,h3⟩
