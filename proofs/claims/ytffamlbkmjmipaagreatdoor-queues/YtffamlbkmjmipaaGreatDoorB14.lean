import Derived.Test.YtffamlbkmjmipaaGreatDoorB13
set_option maxHeartbeats 8000000
set_option maxRecDepth 100000
namespace Go.Proofs.YtffamlbkmjmipaaGreatDoor
open _root_.Go.Proofs.Tryz
namespace Pj
open Go.RowKit aM Mc
attribute [local go_sem] ag ar
variable{g off n cap:Nat}{xs:List Value}{w:World}{F:Ft}
theorem Ck(ao:Option Addr)(n cap:Nat)(w:World):Calls prog 284 #[.slice ao n cap] w fun e w'=>e= .returned (.int .i64 n)∧w'=w:=by go_enter func284,ntmps284;go_wp2;go_ret;exact⟨rfl,rfl⟩
theorem lU{e:TypeId}(h:(rowA e 1 (.slice (some ⟨g,off,none⟩) n cap) n xs).holds w F)(m:Nat)(hm:m<=n):(rowA e 1 (.slice (some ⟨g,off,none⟩) m cap) m (xs.take m)).holds w F:=by
 have hl:=ug h;rcases h.2 with⟨h0,_⟩|⟨g',rH,cM,cur,hv,hF,hg,hn,Aa,cg,ht⟩
 ·cases h0
 ·cases hv;refine⟨by rw[List.length_take];omega, .inr ⟨g,off,cap,cur,rfl,hF,hg,by omega,Aa,cg, ?_⟩⟩;rw[<-ht,List.take_take];congr 1;omega
theorem qY{e:TypeId}(h:(rowA e 1 (.slice (some ⟨g,off,none⟩) n cap) n xs).holds w F)(c:Nat)(h1:n<=c)(h2:c<=cap):(rowA e 1 (.slice (some ⟨g,off,none⟩) n c) n xs).holds w F:=by
 rcases h.2 with⟨h0,_⟩|⟨g',rH,cM,cur,hv,hF,hg,hn,Aa,cg,ht⟩
 ·cases h0
 ·cases hv;exact⟨h.1, .inr ⟨g,off,c,cur,rfl,hF,hg,h1,by omega,by omega,ht⟩⟩
theorem KF(g:Gh)(hp:List At)(a:At):hpA g (hp++ [a])=aa (hpA g hp) (gD g a hp.length):=by unfold hpA;rw[List.zipIdx_append,all_append];congr 1;show all _ [(a,0+hp.length)]=_;rw[oy,Nat.zero_add]
theorem QW{x:Nat}{cs:Array Value}{g:Gh}{gb:Nat}{hp:List At}{a:At}(h:(gy x cs g (.slice (some ⟨gb,off,none⟩) (hp.length+1) cap) (hp++ [a])).holds w F):Goes (aa (gy x (cs.setIfInBounds 11 (.slice (some ⟨gb,off,none⟩) hp.length cap)) g (.slice (some ⟨gb,off,none⟩) hp.length cap) hp) (gD g a hp.length)) w F ((w.setCell ⟨gb,off+hp.length,none⟩ (.pointer none)).setCell ⟨x,11,none⟩ (.slice (some ⟨gb,off,none⟩) hp.length cap)):=by
 unfold gy Av at h⊢;rw[KF]at h;have h1:(aa (eY g (.slice (some ⟨gb,off,none⟩) (hp.length+1) cap) (hp++ [a])) (aa (blk x (.cells cs 88 (0,0))) (aa (hpA g hp) (gD g a hp.length)))).holds w F:=by
  have e:aa (eY g (.slice (some ⟨gb,off,none⟩) (hp.length+1) cap) (hp++ [a])) (aa (blk x (.cells cs 88 (0,0))) (aa (hpA g hp) (gD g a hp.length)))=aa (blk x (.cells cs 88 (0,0))) (aa (eY g (.slice (some ⟨gb,off,none⟩) (hp.length+1) cap) (hp++ [a])) (aa (hpA g hp) (gD g a hp.length))):=by ac_rfl
  rw[e];exact h
 have s1:=Goes.frame (A':=eY g (.slice (some ⟨gb,off,none⟩) hp.length cap) hp) (w':=w.setCell ⟨gb,off+hp.length,none⟩ (.pointer none)) h1 (fun G hG _=>by
  unfold eY at hG;simp only[aN,List.length_cons,List.length_nil,Nat.zero_add]at hG;refine(cu hG hp.length (.pointer none) (by omega)).mono fun F' dR=> ?_;have:=lU dR hp.length (by omega);unfold eY;rw[List.take_set_of_le (ae _)]at this;have e2:((hp++ [a]).map fun a=>pt (g.ap (key a))).take hp.length=hp.map fun a=>pt (g.ap (key a)):=by rw[aH,List.take_left' (by simp)]
  rw[e2]at this;exact this)
 have s2:=(s1.eq (show _=aa (blk x (.cells cs 88 (0,0))) (aa (eY g (.slice (some ⟨gb,off,none⟩) hp.length cap) hp) (aa (hpA g hp) (gD g a hp.length)))by ac_rfl)).store 11 (.slice (some ⟨gb,off,none⟩) hp.length cap);exact s2.eq (by ac_rfl)
theorem pop_any(x:Nat)(cs:Array Value)(g:Gh)(gb off cap n0:Nat)(hp:List At)(a:At)(w:World)(F:Ft)(Mj:hp.length+1=n0)(hc:cs[11]?=some (.slice (some ⟨gb,off,none⟩) n0 cap))(h:(gy x cs g (.slice (some ⟨gb,off,none⟩) n0 cap) (hp++ [a])).holds w F)(hl:hp.length<=16777216)(dF:n0<=cap):Calls prog 287 #[.pointer (some ⟨x,11,none⟩)] w fun e w'=>e= .returned (.iface 127 (pt (g.ap (key a))))∧Goes (aa (gy x (cs.setIfInBounds 11 (.slice (some ⟨gb,off,none⟩) hp.length cap)) g (.slice (some ⟨gb,off,none⟩) hp.length cap) hp) (gD g a hp.length)) w F w':=by
 subst Mj;have c11:=jX h hc;have f11:w.frozen? ⟨x,11,none⟩=false:=by have:=(dC h).1;simp only[World.frozen?,this];simp
 have HG:Hid (Goes (aa (gy x (cs.setIfInBounds 11 (.slice (some ⟨gb,off,none⟩) hp.length cap)) g (.slice (some ⟨gb,off,none⟩) hp.length cap) hp) (gD g a hp.length)) w F
   ((w.setCell ⟨gb,off+hp.length,none⟩ (.pointer none)).setCell ⟨x,11,none⟩ (.slice (some ⟨gb,off,none⟩) hp.length cap))):=QW h
 obtain⟨c1,f1,cC⟩:w.cell? ⟨gb,off+hp.length,none⟩=some (.pointer (some ⟨g.ap (key a),0,none⟩))∧w.frozen? ⟨gb,off+hp.length,none⟩=false∧gb≠x:=by
  obtain⟨G,H,ha,⟨G1,H1,hb,_,_,e1⟩,d,e⟩:=h;unfold eY at hb;have iI:(rowA 127 1 (.slice (some ⟨gb,off,none⟩) (hp.length+1) cap) (hp.length+1) ((hp++ [a]).map fun a=>pt (g.ap (key a)))).holds w G1:=by simpa using hb
  refine⟨?_,bV iI _,fun e2=>d x ((ha.2 x).2 rfl) ((e1 x).2 (.inl (e2▸(dK iI).2)))⟩;rw[bm iI _ (by omega)];simp[pt]
 have abR:(w.setCell ⟨gb,off+hp.length,none⟩ (.pointer none)).cell? ⟨x,11,none⟩=some (.slice (some ⟨gb,off,none⟩) (hp.length+1) cap):=by rw[World.cell?_setCell_far _ _ _ _ cC];exact c11
 clear h;unfold pt;generalize g.ap (key a)=ap at*;have qb:(0:Int)<=((hp.length:Nat):Int):=by omega
 generalize hp.length=n at*;go_enter func287,ntmps287;go_wp2;go_ret;exact⟨rfl,HG.out⟩
theorem II:(prog.info? 127).map (fun i=>(i.zero,i.size,i.bytes))=some (some (.pointer none),1,8):=by kernel_rfl
theorem ia{t:TypeId}{z:Value}{a b:Nat}(h:(prog.info? t).map (fun i=>(i.zero,i.size,i.bytes))=some (some z,a,b)): ∃i,prog.info? t=some i∧i.zero=some z∧i.size=a∧i.bytes=b:=by
 cases hi:prog.info? t with
 |none=>rw[hi]at h;cases h
 |some i=>rw[hi]at h;simp only[Option.map_some,Option.some.injEq,Prod.mk.injEq]at h;exact⟨i,rfl,h.1,h.2.1,h.2.2⟩
theorem Ox(v:Value)(w:World):(Instr.typeAssert (.iface 127 v) 20 127 false).run prog w= .ok v w:=by kernel_rfl
theorem push_any(x:Nat)(cs:Array Value)(g:Gh)(ao:Option Addr)(cap n0 k0:Nat)(hp:List At)(a:At)(w:World)(F:Ft)(Mj:hp.length=n0)(hc:cs[11]?=some (.slice ao n0 cap))(h:(aa (gy x cs g (.slice ao n0 cap) hp) (gD g a k0)).holds w F)(hl:hp.length<=16777216):Calls prog 288 #[.pointer (some ⟨x,11,none⟩), .iface 127 (pt (g.ap (key a)))] w fun e w'=>e= .returned (.tuple #[])∧ ∃gb off cM,Goes (gy x (cs.setIfInBounds 11 (.slice (some ⟨gb,off,none⟩) (n0+1) cM)) g (.slice (some ⟨gb,off,none⟩) (n0+1) cM) (hp++ [a])) w F w':=by
 obtain⟨i0,kR,gI,dN,fS⟩:=ia II;have h1:(aa (blk x (.cells cs 88 (0,0))) (aa (eY g (.slice ao n0 cap) hp) (aa (hpA g hp) (gD g a k0)))).holds w F:=by
  have e:aa (blk x (.cells cs 88 (0,0))) (aa (eY g (.slice ao n0 cap) hp) (aa (hpA g hp) (gD g a k0)))=aa (gy x cs g (.slice ao n0 cap) hp) (gD g a k0):=by unfold gy Av;ac_rfl
  rw[e];exact h
 have iO:=(dC h1).1;have c11:w.cell? ⟨x,11,none⟩=some (.slice ao n0 cap):=by simp only[World.cell?,iO];exact hc
 have f11:w.frozen? ⟨x,11,none⟩=false:=by simp only[World.frozen?,iO];simp
 have h2:(aa (gD g a k0) (aa (blk x (.cells cs 88 (0,0))) (aa (eY g (.slice ao n0 cap) hp) (hpA g hp)))).holds w F:=by
  have e:aa (gD g a k0) (aa (blk x (.cells cs 88 (0,0))) (aa (eY g (.slice ao n0 cap) hp) (hpA g hp)))=aa (blk x (.cells cs 88 (0,0))) (aa (eY g (.slice ao n0 cap) hp) (aa (hpA g hp) (gD g a k0))):=by ac_rfl
  rw[e];exact h1
 have hb1:=(dC h2).1;have hxa:g.ap (key a)≠x:=OE h2;have c6:w.cell? ⟨g.ap (key a),6,none⟩=some (.int .i64 k0):=by simp only[World.cell?,hb1];rfl
 have f6:w.frozen? ⟨g.ap (key a),6,none⟩=false:=by simp only[World.frozen?,hb1];simp
 have HS:Hid (Goes (aa (eY g (.slice ao n0 cap) hp) (aa (blk x (.cells cs 88 (0,0))) (aa (hpA g hp) (gD g a n0)))) w F ((w.setCell ⟨g.ap (key a),6,none⟩ (.int .i64 n0)).alloc (.cells #[.pointer (some ⟨g.ap (key a),0,none⟩)] 127))):=by
  have s1:=(Goes.refl h2).store 6 (.int .i64 n0);refine(s1.dt _).eq ?_;show aa (gD g a n0) (aa (blk x (.cells cs 88 (0,0))) (aa (eY g (.slice ao n0 cap) hp) (hpA g hp)))=_
  ac_rfl
 obtain⟨W1,vP⟩: ∃W1,W1=(w.setCell ⟨g.ap (key a),6,none⟩ (.int .i64 n0)).alloc (.cells #[.pointer (some ⟨g.ap (key a),0,none⟩)] 127):=⟨_,rfl⟩;have cg:(w.setCell ⟨g.ap (key a),6,none⟩ (.int .i64 n0)).heap.size=w.heap.size:=by simp[World.setCell]
 have Od:=HS.out;rw[<-vP]at Od;obtain⟨F1,cd,o1,n1⟩:=Od;have pB:=cd;obtain⟨G,H,ha,hb,d,e⟩:=cd;have XV:W1.heap[w.heap.size]?=some (.cells #[.pointer (some ⟨g.ap (key a),0,none⟩)] 127 (0,0)):=by rw[vP,<-cg];exact heap_alloc_new _ _
 have fy:Hid ((rowA 127 1 (.slice ao n0 cap) n0 (hp.map fun a=>pt (g.ap (key a)))).holds W1 G):=by unfold eY at ha;rw[Mj]at ha;exact ha
 have HX:Hid (∀iw xm w2,Goes (rowA 127 1 (.slice iw (n0+1) xm) (n0+1) ((hp.map fun a=>pt (g.ap (key a)))++ [.pointer (some ⟨g.ap (key a),0,none⟩)])) W1 G w2->
   w2.cell? ⟨x,11,none⟩=some (.slice ao n0 cap)∧w2.frozen? ⟨x,11,none⟩=false∧ ∃gb off,iw=some ⟨gb,off,none⟩∧
   Goes (gy x (cs.setIfInBounds 11 (.slice (some ⟨gb,off,none⟩) (n0+1) xm)) g (.slice (some ⟨gb,off,none⟩) (n0+1) xm) (hp++ [a])) w F (w2.setCell ⟨x,11,none⟩ (.slice iw (n0+1) xm))):=fun iw xm w2 bK=>by
  have s2:=aF o1 n1 (aV hb bK d e);obtain⟨F2,eX,o2,n2⟩:=s2;have aaJ: ∃gb off,iw=some ⟨gb,off,none⟩:=by obtain⟨G2,pw,_⟩:=aM.left eX;obtain⟨_,_,e1,_,_,h4,_⟩:=bC pw;cases e1;obtain⟨g',rH,e2,_⟩:=h4 (by omega);exact⟨g',rH,e2⟩
  obtain⟨gb,off,rfl⟩:=aaJ;have iX:(aa (blk x (.cells cs 88 (0,0))) (aa (rowA 127 1 (.slice (some ⟨gb,off,none⟩) (n0+1) xm) (n0+1) ((hp.map fun a=>pt (g.ap (key a)))++ [.pointer (some ⟨g.ap (key a),0,none⟩)])) (aa (hpA g hp) (gD g a n0)))).holds w2 F2:=by rw[bq];exact eX
  have bN:=(dC iX).1;refine⟨by simp only[World.cell?,bN];exact hc,by simp only[World.frozen?,bN];simp,gb,off,rfl, ?_⟩;have s4:=Goes.store (A:=_) (w:=w) (F:=F) ⟨F2,iX,o2,n2⟩ 11 (.slice (some ⟨gb,off,none⟩) (n0+1) xm);refine s4.eq ?_;unfold gy Av eY;rw[KF,aH,aN,Mj];rfl
 clear h h1 h2 iO hb1 ha hb pB o1 n1 d e HS;have abR:(w.setCell ⟨g.ap (key a),6,none⟩ (.int .i64 n0)).cell? ⟨x,11,none⟩=some (.slice ao n0 cap):=by rw[World.cell?_setCell_far _ _ _ _ hxa];exact c11
 unfold pt at fy HX⊢;generalize g.ap (key a)=ap at*;have hlen:n0<=16777216:=by omega
 have HN0:Hid (hp.length=n0):=Mj;have HW1:Hid (W1=(w.setCell ⟨ap,6,none⟩ (.int .i64 n0)).alloc (.cells #[.pointer (some ⟨ap,0,none⟩)] 127)):=vP;clear Mj hl vP;have hta: ∀w,_:=fun w=>Ox (.pointer (some ⟨ap,0,none⟩)) w;go_enter func288,ntmps288;go_wp2_with (at_builtin;go_must(rw[<-HW1.out];refine aC _ rfl _ _ 86 rfl 127 i0 (.pointer none) 1 8 underlying86 kR gI dN fS rfl (by decide) (F:=G) _ n0 _ rfl fy.out ⟨w.heap.size,0,none⟩ 1 1 [.pointer (some ⟨ap,0,none⟩)] rfl rfl (World.news_of_block (cs:= #[.pointer (some ⟨ap,0,none⟩)]) (t:=127) (fr:=(0,0)) XV) (by simp[Value.oneCell']) (by unfold maxLen;omega) (by omega) ?main))
 case main=>intro iw xm w2 bK;obtain⟨c2,f2,gb,off,rfl,gQ⟩:=HX.out iw xm w2 bK;have pn:Hid _:=gQ;clear bK gQ;go_wp2;go_end0;exact⟨rfl,gb,off,xm,pn.out⟩
variable{cs:Array Value}
theorem hide{p:Prop}(h:p):Hid p:=h
theorem Cj{x:Nat}{g:Gh}{lv:Value}{hp:List At}{w:World}{F:Ft}(h:(gy x cs g lv hp).holds w F): ∃ao cap,lv= .slice ao hp.length cap∧hp.length<=cap∧(0<hp.length-> ∃gb off,ao=some ⟨gb,off,none⟩):=by obtain⟨G,hG⟩:=Wn h;obtain⟨ao,cap,h1,h2,_,h3⟩:=Uv hG;exact⟨ao,cap,h1,h2,h3⟩
theorem abt{u:Value}(v:Value)(h:cs[11]?=some u):(cs.setIfInBounds 11 v)[11]?=some v:=by have:=(cT.1 h).1;rw[Array.getElem?_setIfInBounds_self_of_lt this]
theorem Tz(x:Nat)(cs:Array Value)(g:Gh)(lv:Value)(hp:List At)(i:Nat)(w:World)(F:Ft)(hc:cs[11]?=some lv)(h:(gy x cs g lv hp).holds w F)(hi:i<hp.length)(hu:Hp.Near (gH g) hp hp.length i)(hl:hp.length<=16777216):Calls prog 185 #[xA x, .int .i64 i] w fun e w'=>e= .returned (.tuple #[])∧ ∃bB,bB.Perm hp∧Hp.Heap (gH g) bB bB.length∧Goes (gy x cs g lv bB) w F w':=by
 obtain⟨ao,cap,rfl,dF,bI⟩:=Cj h;obtain⟨gb,off,rfl⟩:=bI (by omega);obtain⟨n,hn⟩: ∃n,hp.length=n:=⟨_,rfl⟩;rw[hn]at hc h;have ZB:=Dx x cs g gb off cap n hp n i w F hn hc h (by omega) (by omega) (hn▸hu) hl;have rJ:Hid (∀w1,xQ g hp n i hp false->Goes (gy x cs g (.slice (some ⟨gb,off,none⟩) n cap) hp) w F w1->Calls prog 160 #[xA x, .int .i64 i] w1 fun e w'=>e= .returned (.tuple #[])∧ ∃bB,bB.Perm hp∧Hp.Heap (gH g) bB bB.length∧Goes (gy x cs g (.slice (some ⟨gb,off,none⟩) n cap) bB) w F w'):=fun w1 hs bK=>by obtain⟨F1,cd,o1,n1⟩:=bK;have Ao:Hp.Om (gH g) hp n i:=⟨hn▸hu,(hs.2.2 rfl).2⟩;refine(JK x cs g gb off cap n hp n i w1 F1 hn hc cd (by omega) (by omega) Ao hl).mono ?_;rintro e w'⟨rfl,bB,hw,hh,hg⟩;exact⟨rfl,bB,hw.perm,by rw[hw.len,hn];exact hh,aF o1 n1 hg⟩
 have hm:=jc Cs w x _ (jX h hc);have aaj:=enters_of func284 (by kernel_rfl) rfl;have La:Hid (hp.length=n):=hn;have abG:Hid (∀w1 bB,xQ g hp n i bB true->Goes (gy x cs g (.slice (some ⟨gb,off,none⟩) n cap) bB) w F w1-> ∃bB,bB.Perm hp∧Hp.Heap (gH g) bB bB.length∧Goes (gy x cs g (.slice (some ⟨gb,off,none⟩) n cap) bB) w F w1):=fun w1 bB hs bK=>⟨bB,hs.1.perm,by rw[hs.1.len,hn];exact hs.2.1 rfl,bK⟩;rw[hn];clear hu h hn hi hl dF bI;unfold xA at*;go_enter func185,ntmps185;go_wp2_with (first
  |(go_at_call 284;go_must(refine(Ck _ _ _ _).mono ?_;rintro e w1⟨rfl,rfl⟩))
  |(go_at_call 164;go_must(refine ZB.mono ?_;rintro e w1⟨b,bB,rfl,hs,bK⟩;have C9:=hide hs;have nt:=hide bK;clear hs bK ZB;cases b))
  |(go_at_call 160;go_must(have e1:=(C9.out.2.2 rfl).1;subst e1;refine(rJ.out _ C9.out nt.out).mono ?_;rintro e w2⟨rfl,hx⟩;have J1:=hide hx;clear hx)))
 all_goals go_end0
 ·exact⟨rfl,J1.out⟩
 ·exact⟨rfl,abG.out _ _ C9.out nt.out⟩
variable{n:Nat}
def mn(w:World)(p:Nat):Prop:= ∃cs t,w.heap[p]?=some (.cells cs t (0,0))
theorem xz{κ:Type}{l:List κ}{x:κ}(h:l[0]?=some x): ∃t,l=x::t:=by
 cases l with
 |nil=>simp at h
 |cons y t=>simp at h;exact⟨t,by rw[h]⟩
theorem mE{κ:Type} [DecidableEq κ]{l:List κ}{i:Nat}{x:κ}(h:l[i]?=some x)(hb: ∀k,k<i->l[k]?≠some x):l.erase x=l.eraseIdx i:=by
 induction l generalizing i with
 |nil=>simp at h
 |cons y l ih=>
  match i with
  |0=>simp at h;subst h;simp
  |i+1=>have cC:y≠x:=fun e=>hb 0 (by omega) (by simp[e]);rw[List.erase_cons_tail (by simpa using cC),List.eraseIdx_cons_succ,ih (by simpa using h) (fun k hk=>by simpa using hb (k+1) (by omega))]
theorem Mm(x:Nat)(cs:Array Value)(g:Gh)(lv:Value)(hp:List At)(a:At)(k0:Nat)(w:World)(F:Ft)(hc:cs[11]?=some lv)(h:(aa (gy x cs g lv hp) (gD g a k0)).holds w F)(hh:Hp.Heap (gH g) hp hp.length)(hl:hp.length<=16777200):Calls prog 121 #[xA x, .iface 127 (pt (g.ap (key a)))] w fun e w'=>e= .returned (.tuple #[])∧ ∃bB mI,bB.Perm (a::hp)∧Hp.Heap (gH g) bB bB.length∧Goes (gy x (cs.setIfInBounds 11 mI) g mI bB) w F w':=by
 have Mh: ∃G,(gy x cs g lv hp).holds w G:=by obtain⟨G,hG,_⟩:=aM.left h;exact⟨G,hG⟩
 obtain⟨G0,pD⟩:=Mh;obtain⟨ao,cap,rfl,dF,_⟩:=Cj pD;obtain⟨n,hn⟩: ∃n,hp.length=n:=⟨_,rfl⟩;rw[hn]at hc h;have SJ:=push_any x cs g ao cap n k0 hp a w F hn hc h (by omega);have hm:=E4 Qx w x;have aaj:=enters_of func284 (by kernel_rfl) rfl;have adt:=enters_of func288 (by kernel_rfl) rfl;have HAF:Hid (∀gb off cM w1,Goes (gy x (cs.setIfInBounds 11 (.slice (some ⟨gb,off,none⟩) (n+1) cM)) g (.slice (some ⟨gb,off,none⟩) (n+1) cM) (hp++ [a])) w F w1->
   w1.cell? ⟨x,11,none⟩=some (.slice (some ⟨gb,off,none⟩) (n+1) cM)∧
   Calls prog 160 #[xA x, .int .i64 n] w1 fun e w'=>e= .returned (.tuple #[])∧ ∃bB mI,bB.Perm (a::hp)∧Hp.Heap (gH g) bB bB.length∧Goes (gy x (cs.setIfInBounds 11 mI) g mI bB) w F w'):=fun gb off cM w1 bK=>by
  obtain⟨F1,cd,o1,n1⟩:=bK;have pX:=abt (.slice (some ⟨gb,off,none⟩) (n+1) cM) hc;refine⟨jX cd pX, ?_⟩;have Ao:Hp.Om (gH g) (hp++ [a]) (n+1) n:=by rw[<-hn];exact hh.push a
  refine(JK x _ g gb off cM (n+1) (hp++ [a]) (n+1) n w1 F1 (by simp[hn]) pX cd (by simp[hn]) (by omega) Ao (by simp;omega)).mono ?_;rintro e w'⟨rfl,bB,hw,hh',hg⟩;refine⟨rfl,bB,_,hw.perm.trans (List.perm_append_singleton a hp), ?_,aF o1 n1 hg⟩;rw[hw.len,aN,hn];exact hh'
 have V3:n<=16777200:=by omega
 clear h pD hh hn hl dF hc;unfold xA pt at*;go_enter func121,ntmps121;go_wp2_with (first
  |(go_at_call 288;go_must(refine SJ.mono ?_;rintro e w1⟨rfl,gb,off,cM,bK⟩;obtain⟨hcell,N3⟩:=HAF.out gb off cM w1 bK;have XR:=jc Cs w1 x _ hcell;have rJ:=hide N3;clear bK hcell SJ hm N3))
  |(go_at_call 284;go_must(refine(Ck _ _ _ _).mono ?_;rintro e w1⟨rfl,rfl⟩))
  |(go_at_call 160;go_must(refine rJ.out.mono ?_;rintro e w2⟨rfl,hx⟩;have J1:=hide hx;clear hx)))
 go_end0;exact⟨rfl,J1.out⟩
theorem yR{hp:List At}(hn:hp.length=n+1): ∃l a,hp=l++ [a]∧l.length=n:=by
 have:hp≠ []:=by intro e;simp[e]at hn
 refine⟨hp.dropLast,hp.getLast this,(List.dropLast_concat_getLast this).symm,by simp[hn]⟩
theorem popped{g:Gh}{l:List At}{a:At}(hl:l.length=n)(h:Hp.Heap (gH g) (l++ [a]) n):Hp.Heap (gH g) l l.length:=by subst hl;exact h.mono (ae _) (fun k hk=>(List.getElem?_append_left hk).symm)
theorem Ek(x:Nat)(cs:Array Value)(g:Gh)(lv:Value)(hp:List At)(i:Nat)(w:World)(F:Ft)(hc:cs[11]?=some lv)(h:(gy x cs g lv hp).holds w F)(hi:i<hp.length)(hh:Hp.Heap (gH g) hp hp.length)(hl:hp.length<=16777200):Calls prog 126 #[xA x, .int .i64 i] w fun e w'=> ∃v bB mI k,e= .returned v∧((hp[i]'hi)::bB).Perm hp∧Hp.Heap (gH g) bB bB.length∧Goes (aa (gy x (cs.setIfInBounds 11 mI) g mI bB) (gD g (hp[i]'hi) k)) w F w':=by
 obtain⟨ao,cap,rfl,dF,bI⟩:=Cj h;obtain⟨gb,off,rfl⟩:=bI (by omega);obtain⟨n,hn⟩: ∃n,hp.length=n+1:=⟨hp.length-1,by omega⟩;obtain⟨m,vT⟩: ∃m,m=n+1:=⟨_,rfl⟩;have kx:((m:Nat):Int)-1=(n:Int):=by omega
 have Sg:n<=16777216:=by omega
 have hmb:m<=16777217:=by omega
 rw[hn,<-vT]at hc h;obtain⟨a,ha⟩: ∃a,a=hp[i]'hi:=⟨_,rfl⟩;rw[<-ha];have sB:hp[i]?=some a:=by rw[a7 hi,ha]
 have aaj:=enters_of func284 (by kernel_rfl) rfl;have aak:=enters_of func286 (by kernel_rfl) rfl;have ads:=enters_of func287 (by kernel_rfl) rfl;have hm:=jc Cs w x _ (jX h hc);have hmP: ∀w,_:=fun w=>E4 UA w x;have SI:Hid (∀l w1,Goes (gy x cs g (.slice (some ⟨gb,off,none⟩) m cap) (l++ [a])) w F w1->(l++ [a]).Perm hp->l.length=n->Hp.Heap (gH g) (l++ [a]) n->
   Calls prog 287 #[.pointer (some ⟨x,11,none⟩)] w1 fun e w'=> ∃v bB mI k,e= .returned v∧(a::bB).Perm hp∧Hp.Heap (gH g) bB bB.length∧Goes (aa (gy x (cs.setIfInBounds 11 mI) g mI bB) (gD g a k)) w F w'):=fun l w1 bK BU Af GN=>by
  obtain⟨F1,cd,o1,n1⟩:=bK;refine(pop_any x cs g gb off cap m l a w1 F1 (by omega) hc cd (by omega) (by omega)).mono ?_;rintro e w'⟨rfl,hg⟩;exact⟨_,l,_,_,rfl,(List.perm_append_singleton a l).symm.trans BU,popped Af GN,aF o1 n1 hg⟩
 by_cases KB:n=i
 ·
  obtain⟨l,b,rfl,Af⟩:=yR hn;have hb:b=a:=by rw[<-KB,List.getElem?_append_right (by omega),Af]at sB;simpa using sB
  subst hb;have HP:=hide (SI.out l w (Goes.refl h) (List.Perm.refl _) Af (by rw[<-Af];exact hh.mono (by simp) (fun _ _=>rfl)));have HM0:=hide vT;clear SI h hh sB ha hc vT hn dF bI hl;subst KB;unfold xA at*;go_enter func126,ntmps126;go_wp2_with (first
   |(go_at_call 284;go_must(refine(Ck _ _ _ _).mono ?_;rintro e w1⟨rfl,rfl⟩))
   |(go_at_call 287;go_must(refine HP.out.mono ?_;rintro e w2⟨v,bB,mI,k,rfl,hx⟩;have J1:=hide hx;clear hx)))
  go_ret;obtain⟨h1,h2,h3⟩:=J1.out;exact⟨_,_,_,_,rfl,h1,h2,h3⟩
 ·
  have HSW:=uw (q:=0) (by omega:hp.length=m) h i n hi (by omega) (by omega) (by omega);rw[show w.drewN 0=w from rfl]at HSW;have Wh:(Hp.swap hp i n).Perm hp:=Hp.swap_perm (by omega) (by omega);have V0:(Hp.swap hp i n).length=n+1:=by rw[Hp.wC,hn]
  have Eh:Hp.Near (gH g) (Hp.swap hp i n) n i:=Hp.Heap.changed (kL g) (l:=hp) (by omega) (hh.mono (by omega) (fun _ _=>rfl)) (fun k hk Ac=>by rw[Hp.uv (by omega) (by omega),if_neg (by omega),if_neg Ac]);have Ef:(Hp.swap hp i n)[n]?=some a:=by rw[Hp.uv (by omega) (by omega),if_pos rfl];exact sB
  have ZB:Hid (∀w1,Goes (gy x cs g (.slice (some ⟨gb,off,none⟩) m cap) (Hp.swap hp i n)) w F w1->Calls prog 164 #[xA x, .int .i64 i, .int .i64 n] w1 fun e w'=> ∃b bB,e= .returned (.bool b)∧xQ g (Hp.swap hp i n) n i bB b∧Goes (gy x cs g (.slice (some ⟨gb,off,none⟩) m cap) bB) w F w'):=fun w1 bK=>by obtain⟨F1,cd,o1,n1⟩:=bK;refine(Dx x cs g gb off cap m (Hp.swap hp i n) n i w1 F1 (by omega) hc cd (by omega) (by omega) Eh (by omega)).mono ?_;rintro e w'⟨b,bB,h1,h2,h3⟩;exact⟨b,bB,h1,h2,aF o1 n1 h3⟩
  have fg:Hid (∀bB w1,Way g (Hp.swap hp i n) n bB->Hp.Heap (gH g) bB n->Goes (gy x cs g (.slice (some ⟨gb,off,none⟩) m cap) bB) w F w1->
    Calls prog 287 #[.pointer (some ⟨x,11,none⟩)] w1 fun e w'=> ∃v bB mI k,e= .returned v∧(a::bB).Perm hp∧Hp.Heap (gH g) bB bB.length∧Goes (aa (gy x (cs.setIfInBounds 11 mI) g mI bB) (gD g a k)) w F w'):=fun bB w1 hw GN bK=>by
   have PL:bB.length=n+1:=by rw[hw.len,V0]
   obtain⟨l,b,rfl,Af⟩:=yR PL;have hb:b=a:=by have:=hw.rest n (ae _);rw[Ef,List.getElem?_append_right (by omega),Af]at this;simpa using this
   subst hb;exact SI.out l w1 bK (hw.perm.trans Wh) Af GN
  have rJ:Hid (∀w1,xQ g (Hp.swap hp i n) n i (Hp.swap hp i n) false->Goes (gy x cs g (.slice (some ⟨gb,off,none⟩) m cap) (Hp.swap hp i n)) w F w1->Calls prog 160 #[xA x, .int .i64 i] w1 fun e w'=>e= .returned (.tuple #[])∧ ∃bB,Way g (Hp.swap hp i n) n bB∧Hp.Heap (gH g) bB n∧Goes (gy x cs g (.slice (some ⟨gb,off,none⟩) m cap) bB) w F w'):=fun w1 hs bK=>by obtain⟨F1,cd,o1,n1⟩:=bK;refine(JK x cs g gb off cap m (Hp.swap hp i n) n i w1 F1 (by omega) hc cd (by omega) (by omega) ⟨Eh,(hs.2.2 rfl).2⟩ (by omega)).mono ?_;rintro e w'⟨rfl,bB,hw,hh',hg⟩;exact⟨rfl,bB,hw,hh',aF o1 n1 hg⟩
  have hmS:=jc zf w x _ (jX h hc);have hni:i<n:=by omega
  have HM0:=hide vT;clear SI h hh sB ha hc Wh V0 Eh Ef hl dF bI vT hn hi;unfold xA at*;go_enter func126,ntmps126;go_wp2_with (first
   |(go_at_call 284;go_must(refine(Ck _ _ _ _).mono ?_;rintro e w1⟨rfl,rfl⟩))
   |(go_at_call 286;go_must(refine HSW.mono ?_;rintro e w1⟨rfl,bK⟩;have zO:=hide bK;clear bK HSW hm hmS))
   |(go_at_call 164;go_must(refine(ZB.out _ zO.out).mono ?_;rintro e w2⟨b,bB,rfl,hs,bK⟩;have C9:=hide hs;have nt:=hide bK;clear hs bK ZB zO;cases b))
   |(go_at_call 160;go_must(have e1:=(C9.out.2.2 rfl).1;subst e1;refine(rJ.out _ C9.out nt.out).mono ?_;rintro e w3⟨rfl,bB,hw,hh,bK⟩;have HP:=hide (fg.out _ _ hw hh bK);clear hw hh bK rJ C9 nt))
   |(go_at_call 287;go_must(first|(refine HP.out.mono ?_;rintro e w4⟨v,bB,mI,k,rfl,hx⟩;have J1:=hide hx;clear hx)|(refine(fg.out _ _ C9.out.1 (C9.out.2.1 rfl) nt.out).mono ?_;rintro e w4⟨v,bB,mI,k,rfl,hx⟩;have J1:=hide hx;clear hx))))
  all_goals go_ret
  all_goals obtain⟨h1,h2,h3⟩:=J1.out
  all_goals exact⟨_,_,_,_,rfl,h1,h2,h3⟩
