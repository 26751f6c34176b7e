import Derived.Test.YtffamlbkmjmipaaGreatDoorC22
set_option maxHeartbeats 8000000
set_option maxRecDepth 100000
namespace Go.Proofs.YtffamlbkmjmipaaGreatDoor
open _root_.Go.Proofs.Tryz
namespace Pj
open Go.RowKit aJ Mc
attribute [local go_sem] ae ag
theorem QI(id n:Int)(ten txt:Bs):said [.s [114,117,110], .n id, .n n, .s ten, .s txt]= [114,117,110,32]++bZ id++ [32]++bZ n++ [32]++ten++ [32]++txt:=by simp[said,Lib.join,Part.txt]
def Js.begin(j:Js)(r:Rr)(t:Tr)(a:At)(hp:List At):Js:=
 ({j with begun:=j.begun+1,hp:=hp}:Js).at2 r.q.id t.nm {r.q with n:=r.q.n+1} (r.al++ [a.n]) {t with rn:=t.rn+1}
section
variable{x:Nat}{g:Gh}{j:Js}{v:Dv}{r:Rr}{t:Tr}{q:Rq}{al:List Int}{av wv:Value}{B Q P:aJ}{w w':World}{F:Ft}
theorem aab(h:(jW x g j v q al t av wv (aa Q P)).holds w F): ∃G,(aa (fA x (yY j v) g v.lv j.hp) P).holds w G∧ ∀ba kt w2,Goes (fA x ((yY j v).setIfInBounds 11 kt) g kt ba) w G w2->Goes (jW x g {j with hp:=ba} {v with lv:=kt} q al t av wv Q) w F w2:=by
 have h2:=aA h (show _=aa (aa (fA x (yY j v) g v.lv j.hp) P) (aa (dL g v.rv j.ring) (aa (kd g j.c.re q av) (aa (jh g av q.id al) (aa (kC g t wv) (aa (jH g wv t.wt) Q)))))by unfold jW fA zB dB;ac_rfl);obtain⟨G,H,ha,hb,d,e⟩:=h2;refine⟨G,ha,fun ba kt w2 hg=> ?_⟩;refine(aO hb hg d e).eq ?_;have:fA x ((yY j v).setIfInBounds 11 kt) g kt ba=aa (dB x {j with hp:=ba} {v with lv:=kt}) (aa (dh g kt ba) (hpA g ba)):=rfl;rw[this];unfold jW;dsimp only
 ac_rfl
end
structure Beg(base x tb:Nat)(g:Gh)(cn:List (Int×Nat×Bs))(j:Js)(r:Rr)(t:Tr)(c:Int)(a:At)(N:Nat)(s':St):Prop where
 wf:Wf j
 hr:r∈j.reqs
 ht:t∈j.aQ
 et:t.nm=r.q.ten
 ea:a=⟨r.q.id,r.q.n+1,c,j.now,j.now+j.c.le⟩
 f1: ∀b∈j.hp,key b≠key a
 f2: ∀y∈j.reqs,∀n∈y.al,(y.q.id,n)≠key a
 heap:Hp.Heap (fJ g) j.hp j.hp.length
 cw:Cw j
 hc:I6 c
 hcn:gO j=cn
 rel: ∀ba,ba.Perm (a::j.hp)->Hp.Heap (fJ (g.new (key a) N ((j.begun:Int)+1))) ba ba.length->Rel (g.new (key a) N ((j.begun:Int)+1)) (j.begin r t a ba) s'
 inv:Inv s'
 sz:s'.sz<=16776000
 req:s'.req r.q.id=some {r.q with n:=r.q.n+1}
 bF:a∈s'.ah
 ok:r.q.ok 4398046511104 1
 now:0<=j.now∧j.now<=4398046511104
 le:0<=j.c.le∧j.c.le<=20
 beg:j.begun<=16777216
theorem s7{base x tb:Nat}{g:Gh}{cn:List (Int×Nat×Bs)}{j:Js}{r:Rr}{t:Tr}{c:Int}{a:At}{s':St}{w:World}{F:Ft}(T:Tabs base w)(hF: ∀k,F k->base<=k)(h:(aa (jA x g j) (uQ tb s'.out)).holds w F)(b:Beg base x tb g cn j r t c a w.heap.size s'):Calls prog 76 #[pt x,pt tb, .int .i64 c,pt (g.rp r.q.id)] w fun e w'=>e= .returned (.tuple #[])∧Goes (stA base x tb (g.new (key a) w.heap.size ((j.begun:Int)+1)) cn (s'.say c (St.runText r.q (r.q.n+1)))) w F w':=by
 obtain⟨i0,jo,mz,ja,jK⟩:=fQ GK;obtain⟨N,hN⟩: ∃N,N=w.heap.size:=⟨_,rfl⟩;obtain⟨g',jI⟩: ∃g',g'=g.new (key a) N ((j.begun:Int)+1):=⟨_,rfl⟩;rw[<-hN]at b⊢;rw[<-jI];rw[<-Wp x g j (key a) N ((j.begun:Int)+1) b.f1 b.f2,<-jI]at h;have hrp:g.rp r.q.id=g'.rp r.q.id:=by rw[jI];rfl
 rw[hrp];have J6:g'.ap (key a)=N:=by rw[jI];exact Gh.WD _ _ _ _
 have hsr:g'.sr (key a)=(j.begun:Int)+1:=by rw[jI];exact Gh.Qd _ _ _ _
 have uv:Hp.Heap (fJ g') j.hp j.hp.length:=by rw[jI];exact NG b.f1 b.heap
 have hrel:=b.rel;rw[<-jI]at hrel;have wf:=b.wf;have hr:=b.hr;have ht:=b.ht;have et:=b.et;have Sm:key a=(r.q.id,r.q.n+1):=by rw[b.ea];rfl
 have Iq:a.n=r.q.n+1:=by rw[b.ea]
 obtain⟨v,av,wv,Kl,hw⟩:=mj h wf hr ht;have S7: ∀(s2:St) w7,Inv s2->s2.sz<=16777000->s2.req r.q.id=some {r.q with n:=r.q.n+1}->a∈s2.ah->Goes (stA base x tb g' cn s2) w F w7->w7.cell? ⟨g'.rp r.q.id,0,none⟩=some (.int .i64 r.q.id)∧w7.cell? ⟨N,0,none⟩=some (.int .i64 (r.q.n+1))∧w7.cell? ⟨g'.rp r.q.id,2,none⟩=some (pt (g'.tp t.nm))∧w7.cell? ⟨g'.tp t.nm,0,none⟩=some (bs r.q.ten)∧w7.cell? ⟨g'.rp r.q.id,3,none⟩=some (bs r.q.txt):=fun s2 w7 Xt jK ux ha2 hg=>by obtain⟨F7,hF7,_⟩:=hg;obtain⟨_,_,_,_,RA⟩:=fL hF7 Xt jK ux;obtain⟨p0,p1,p2,p3⟩:=jD hF7 Xt jK ha2;rw[J6,Iq]at p0;exact⟨RA.ci,p0,by rw[et];exact RA.ten,by rw[et];exact RA.nm,RA.txt⟩
 have S7':Hid (∀w7,Goes (stA base x tb g' cn s') w F w7->(w7.cell? ⟨g'.rp r.q.id,0,none⟩=some (.int .i64 r.q.id)∧w7.cell? ⟨N,0,none⟩=some (.int .i64 (r.q.n+1))∧w7.cell? ⟨g'.rp r.q.id,2,none⟩=some (pt (g'.tp t.nm))∧w7.cell? ⟨g'.tp t.nm,0,none⟩=some (bs r.q.ten)∧w7.cell? ⟨g'.rp r.q.id,3,none⟩=some (bs r.q.txt))∧
   Hid (∀nq,Calls prog 89 #[pt tb, .int .i64 c, .slice (some ⟨w7.heap.size,0,none⟩) 5 5] ((w7.alloc (.cells #[.iface 9 (.string ⟨#[114,117,110]⟩), .iface 3 (.int .i64 r.q.id), .iface 3 (.int .i64 (r.q.n+1)), .iface 9 (bs r.q.ten), .iface 9 (bs r.q.txt)] 20)).drewN nq) fun e w'=>e= .returned (.tuple #[])∧
    (w'.cell? ⟨g'.rp r.q.id,0,none⟩=some (.int .i64 r.q.id)∧w'.cell? ⟨N,0,none⟩=some (.int .i64 (r.q.n+1))∧w'.cell? ⟨g'.rp r.q.id,2,none⟩=some (pt (g'.tp t.nm))∧w'.cell? ⟨g'.tp t.nm,0,none⟩=some (bs r.q.ten)∧w'.cell? ⟨g'.rp r.q.id,3,none⟩=some (bs r.q.txt))∧
    Goes (stA base x tb g' cn (s'.say c (St.runText r.q (r.q.n+1)))) w F w')):=fun w7 hg=>by
  refine⟨S7 s' w7 b.inv (by have:=b.sz;omega) b.req b.bF hg,fun nq=> ?_⟩;have T7:=T.goes hF hg;obtain⟨F7,hF7,o7,n7⟩:=hg;have BZ:=b.ok;have Wc:=kA T7 hF7 (by have:=b.sz;omega) c [.s [114,117,110], .n r.q.id, .n (r.q.n+1), .s r.q.ten, .s r.q.txt] (St.runText r.q (r.q.n+1)) (by rw[QI];rfl) (by simp) (by simp) (by
   intro p hp;simp only[List.mem_cons,List.not_mem_nil,or_false]at hp;rcases hp with rfl|rfl|rfl|rfl|rfl
   ·exact Part.tO (by decide)
   ·exact Part.Bz (wF BZ.id)
   ·exact Part.Bz (by have:=BZ.n;omega)
   ·exact Part.tO BZ.ten
   ·exact Part.tO BZ.txt) nq
  refine Wc.mono ?_;rintro e w'⟨rfl,jI⟩;have fw:=aC o7 n7 jI;exact⟨rfl,S7 _ w' (St.bM b.inv _ _) (by rw[St.fB];have:=b.sz;omega) b.req b.bF fw,fw⟩
 have S6: ∀Ih w6,Goes (jW x g' {j with begun:=j.begun+1} v {r.q with n:=r.q.n+1} (r.al++ [a.n]) {t with rn:=t.rn+1} Ih wv (aa (aa (jQ g' j v r t) (uQ tb s'.out)) (fH g' a 0))) w F w6->
   Calls prog 121 #[vy x, .iface 127 (pt N)] w6 fun e w'=>e= .returned (.tuple #[])∧Goes (stA base x tb g' cn s') w F w':=fun Ih w6 hg=>by
  obtain⟨F6,J3,o6,n6⟩:=hg;obtain⟨G6,VG,HL⟩:=aab J3;have NV:=Ks x _ g' v.lv j.hp a 0 w6 G6 (by rfl) VG uv (by have:=wf.b4;omega);rw[J6]at NV;refine NV.mono ?_;rintro e w'⟨rfl,ba,kt,dy,VV,tD⟩;refine⟨rfl, ?_⟩;have g7:=aC o6 n6 (HL ba kt w' tD);have g8:=w_shut (v:=v) (q:={r.q with n:=r.q.n+1}) (t':={t with rn:=t.rn+1}) {j with begun:=j.begun+1,hp:=ba} {v with lv:=kt} wf hr ht rfl rfl rfl rfl rfl rfl rfl rfl rfl rfl rfl g7;exact gj T hF (hrel ba dy VV) ⟨fun y hy=>by
   rcases List.mem_cons.1 (dy.subset hy)with e|e
   ·rw[e,b.ea];exact b.hc
   ·exact b.cw.1 y e,b.cw.2⟩ b.hcn g8
 have S5: ∀Ih w5,Goes (jW x g' {j with begun:=j.begun+1} v {r.q with n:=r.q.n+1} (r.al++ [a.n]) t Ih wv (aa (aa (jQ g' j v r t) (uQ tb s'.out)) (fH g' a 0))) w F w5->
   w5.cell? ⟨g'.rp r.q.id,2,none⟩=some (pt (g'.tp t.nm))∧w5.cell? ⟨g'.tp t.nm,2,none⟩=some (.int .i64 t.rn)∧w5.frozen? ⟨g'.tp t.nm,2,none⟩=false∧
   Hid (Calls prog 121 #[vy x, .iface 127 (pt N)] (w5.setCell ⟨g'.tp t.nm,2,none⟩ (.int .i64 (t.rn+1))) fun e w'=>e= .returned (.tuple #[])∧Goes (stA base x tb g' cn s') w F w'):=fun Ih w5 hg=>by
  obtain⟨F5,J2,_⟩:=id hg;refine⟨by rw[et];exact(Rw J2).1 2,(XY J2).1 2,(XY J2).2.1 2,S6 Ih _ (Ra hg (t.rn+1))⟩
 have S3:Hid (∀w3,Goes (jW x g' {j with begun:=j.begun+1} v {r.q with n:=r.q.n+1} r.al t av wv (aa (aa (jQ g' j v r t) (uQ tb s'.out)) (fH g' a 0))) w F w3->
   ∃ao cap G0,av= .slice ao r.al.length cap∧w3.cell? ⟨g'.rp r.q.id,7,none⟩=some (.slice ao r.al.length cap)∧Hid ((rowA 127 1 (.slice ao r.al.length cap) r.al.length (r.al.map fun n=>pt (g'.ap (r.q.id,n)))).holds (w3.alloc (.cells #[pt N] 127)) G0)∧
   Hid (∀fE cT w4,Goes (rowA 127 1 (.slice fE (r.al.length+1) cT) (r.al.length+1) ((r.al.map fun n=>pt (g'.ap (r.q.id,n)))++ [pt N])) (w3.alloc (.cells #[pt N] 127)) G0 w4->
    w4.cell? ⟨g'.rp r.q.id,7,none⟩=some (.slice ao r.al.length cap)∧w4.frozen? ⟨g'.rp r.q.id,7,none⟩=false∧
    (w4.setCell ⟨g'.rp r.q.id,7,none⟩ (.slice fE (r.al.length+1) cT)).cell? ⟨g'.rp r.q.id,2,none⟩=some (pt (g'.tp t.nm))∧(w4.setCell ⟨g'.rp r.q.id,7,none⟩ (.slice fE (r.al.length+1) cT)).cell? ⟨g'.tp t.nm,2,none⟩=some (.int .i64 t.rn)∧(w4.setCell ⟨g'.rp r.q.id,7,none⟩ (.slice fE (r.al.length+1) cT)).frozen? ⟨g'.tp t.nm,2,none⟩=false∧
    Hid (Calls prog 121 #[vy x, .iface 127 (pt N)] ((w4.setCell ⟨g'.rp r.q.id,7,none⟩ (.slice fE (r.al.length+1) cT)).setCell ⟨g'.tp t.nm,2,none⟩ (.int .i64 (t.rn+1))) fun e w'=>e= .returned (.tuple #[])∧Goes (stA base x tb g' cn s') w F w'))):=fun w3 hg=>by
  obtain⟨F3,mB,o3,n3⟩:=hg;obtain⟨G0,mv,yV⟩:=Q8 mB;obtain⟨ao,cap,Xl⟩:=aR (Goes.refl mv);have aaz:(rowA 127 1 (.slice ao r.al.length cap) r.al.length (r.al.map fun n=>pt (g'.ap (r.q.id,n)))).holds w3 G0:=by rw[<-Xl];exact mv
  refine⟨ao,cap,G0,Xl,by rw[(Rw mB).1 7];show some av=_;rw[Xl],dM aaz _,fun fE cT w4 uu=> ?_⟩;have kq:=dx uu;have e5:jh g' (.slice fE (r.al.length+1) cT) r.q.id (r.al++ [a.n])=rowA 127 1 (.slice fE (r.al.length+1) cT) (r.al.length+1) ((r.al.map fun n=>pt (g'.ap (r.q.id,n)))++ [pt N]):=by
   unfold jh;rw[aH,aD];have:g'.ap (r.q.id,a.n)=N:=by rw[<-J6,Sm,Iq]
   simp[this]
  obtain⟨d1,d2,d3⟩:=yV (r.al++ [a.n]) (.slice fE (r.al.length+1) cT) w4 (by rw[e5];exact kq);obtain⟨d4,d5,d6,d7⟩:=S5 _ _ (aC o3 n3 d3);exact⟨by rw[d1,Xl],d2,d4,d5,d6,d7⟩
 have ebg:((j.begun+1:Nat):Int)=(j.begun:Int)+1:=by omega
 have G1:=TZ (Goes.refl hw) (j.begun+1);rw[ebg]at G1;have G2:=Q9 G1 4 (.int .i64 (r.q.n+1)) {r.q with n:=r.q.n+1} rfl rfl;have Rm:((w.setCell ⟨x,12,none⟩ (.int .i64 ((j.begun:Int)+1))).setCell ⟨g'.rp r.q.id,4,none⟩ (.int .i64 (r.q.n+1))).heap.size=N:=by rw[hN];simp[World.setCell]
 have S2:Hid (∀nq,Goes (jW x g' {j with begun:=j.begun+1} v {r.q with n:=r.q.n+1} r.al t av wv (aa (aa (jQ g' j v r t) (uQ tb s'.out)) (fH g' a 0))) w F ((((w.setCell ⟨x,12,none⟩ (.int .i64 ((j.begun:Int)+1))).setCell ⟨g'.rp r.q.id,4,none⟩ (.int .i64 (r.q.n+1))).alloc (.cells #[.int .i64 (r.q.n+1),pt (g'.rp r.q.id), .int .i64 c, .int .i64 ((j.begun:Int)+1), .int .i64 j.now, .int .i64 (j.now+j.c.le), .int .i64 0] 126)).drewN nq)):=fun nq=>by
  refine((G2.alloc (.cells #[.int .i64 (r.q.n+1),pt (g'.rp r.q.id), .int .i64 c, .int .i64 ((j.begun:Int)+1), .int .i64 j.now, .int .i64 (j.now+j.c.le), .int .i64 0] 126)).eq ?_).drewN nq;have e1:blk ((w.setCell ⟨x,12,none⟩ (.int .i64 ((j.begun:Int)+1))).setCell ⟨g'.rp r.q.id,4,none⟩ (.int .i64 (r.q.n+1))).heap.size (.cells #[.int .i64 (r.q.n+1),pt (g'.rp r.q.id), .int .i64 c, .int .i64 ((j.begun:Int)+1), .int .i64 j.now, .int .i64 (j.now+j.c.le), .int .i64 0] 126)=fH g' a 0:=by rw[Rm];unfold fH mr;rw[J6,hsr,b.ea];rfl
  rw[e1];unfold jW
  ac_rfl
 obtain⟨F2,gV,_⟩:=id G2;obtain⟨F1,bU,_⟩:=id G1;have c12:w.cell? ⟨x,12,none⟩=some (.int .i64 (j.begun:Int)):=(W7 hw).1 12;have z12:w.frozen? ⟨x,12,none⟩=false:=(W7 hw).2.1 12;have c4:=(Rw bU).1 4;have z4:=(Rw bU).2.1 4;change _=some (Value.int .i64 r.q.n)at c4;have d4:=(Rw gV).1 4;change _=some (Value.int .i64 (r.q.n+1))at d4;have d12:=(W7 gV).1 12;change _=some (Value.int .i64 ((j.begun+1:Nat):Int))at d12;rw[ebg]at d12;have d5:=(W7 gV).1 5;change _=some (Value.int .i64 j.now)at d5;have d0:=(W7 gV).1 0;change _=some (Value.int .i64 j.c.le)at d0;have bT:=b.beg;have cZ:=b.ok.n;have uX:=b.now;have yZ:=b.le;have IJ:=wf.b5 t ht;have hb6:=wf.al r hr;clear h Kl hw G1 G2 bU gV S5 S6 S7 b uv hrel wf hr ht et Sm Iq hsr jI hrp J6;unfold pt bs vy at*;generalize g'.rp r.q.id=rp at*;generalize g'.tp t.nm=tp at*;generalize j.now=now at*;generalize j.c.le=le at*;generalize t.rn=rn at*;have Db:IntKind.i64.wrap (now+le)=now+le:=by rw[IntKind.wrap_i64];omega
 go_enter func76,ntmps76;go_wp2_with fail;generalize((w.setCell {block:=x,off:=12} (Value.int IntKind.i64 (↑j.begun+1))).setCell {block:=rp,off:=4} (Value.int IntKind.i64 (r.q.n+1)))=w2 at*;have ne4:=World.new_ne w2 _ d4;have abb:=World.new_ne w2 _ d12;have ne5:=World.new_ne w2 _ d5;have ne0:=World.new_ne w2 _ d0;go_region_held3 (fun w'=>w'.cell? ⟨rp,4,none⟩=some (.int .i64 (r.q.n+1))∧w'.cell? ⟨x,12,none⟩=some (.int .i64 ((j.begun:Int)+1))∧w'.cell? ⟨x,5,none⟩=some (.int .i64 now)∧w'.cell? ⟨x,0,none⟩=some (.int .i64 le)) (go_keep) (fail);rw[<-hN];have Ur:=S2.out 1;change Goes _ w F (w2.alloc _).drew at Ur;generalize(w2.alloc (.cells #[.int .i64 (r.q.n+1), .pointer (some ⟨rp,0,none⟩), .int .i64 c, .int .i64 ((j.begun:Int)+1), .int .i64 now, .int .i64 (now+le), .int .i64 0] 126)).drew=w3 at*;obtain⟨ao,cap,G0,rfl,q7,jf,Ry⟩:=S3.out w3 Ur;clear hN Rm Ur S2 S3 d4 d12 d5 d0 ne4 abb ne5 ne0 c12 z12 c4 z4 Db;generalize r.al.length=nal at*;go_wp2_with (first
  |(at_builtin;go_must(refine aT _ rfl _ _ 85 rfl 127 i0 (.pointer none) 1 8 underlying85 jo mz ja jK rfl (by decide) (F:=G0) _ nal _ rfl jf.out ⟨w3.heap.size,0,none⟩ 1 1 [.pointer (some ⟨N,0,none⟩)] rfl rfl (World.news_of_block (cs:= #[.pointer (some ⟨N,0,none⟩)]) (t:=127) (fr:=(0,0)) (heap_alloc_new w3 _)) (by simp[Value.oneCell']) (by unfold maxLen;omega) (by omega) ?_;intro fE cT w4 bE;obtain⟨e7,z7,e2,et2,zt2,RJ⟩:=Ry.out fE cT w4 bE;clear bE jf Ry))
  |(go_at_call 121;go_must(refine RJ.out.mono ?_;rintro e w7⟨rfl,Kk⟩;obtain⟨⟨y0,y1,y2,y3,y4⟩,j8⟩:=S7'.out w7 Kk;clear Kk)))
 have ny0:=World.new_ne w7 _ y0;have ny1:=World.new_ne w7 _ y1;have ny2:=World.new_ne w7 _ y2;have ny3:=World.new_ne w7 _ y3;have ny4:=World.new_ne w7 _ y4;go_region_held3 (fun w'=>w'.cell? ⟨rp,0,none⟩=some (.int .i64 r.q.id)∧w'.cell? ⟨N,0,none⟩=some (.int .i64 (r.q.n+1))∧w'.cell? ⟨rp,2,none⟩=some (.pointer (some ⟨tp,0,none⟩))∧w'.cell? ⟨tp,0,none⟩=some (.string ⟨r.q.ten.toArray⟩)∧w'.cell? ⟨rp,3,none⟩=some (.string ⟨r.q.txt.toArray⟩)) (go_keep) (first
  |(go_at_call 89;go_must(refine(j8.out _).mono ?_;rintro e w8⟨rfl,⟨x0,x1,x2,x3,x4⟩,Zo⟩;have HG8:=hide Zo;clear Zo)))
 all_goals go_end0;exact⟨rfl,HG8.out⟩
section
variable{x:Nat}{g:Gh}{j:Js}{B:aJ}{w w':World}{F:Ft}
theorem Bf(h:(aa (jA x g j) B).holds w F)(hl:j.pull.length<=16777210)(c:Int):Calls prog 73 #[pt x, .int .i64 c] w fun e w'=>e= .returned (.tuple #[])∧Goes (aa (jA x g {j with pull:=j.pull.erase c}) B) w F w':=by
 unfold jA at h;rw[bH]at h;obtain⟨v,h⟩:=h;have h2:=aA h (show _=aa (aa (dB x j v) (gN v.pv j.pull)) (aa (iU v.cm j.bu) (aa (ib g v.rm j.reqs) (aa (gK g v.tm j.aQ) (aa (all gM j.bu) (aa (all (fc g j.c.re) j.reqs) (aa (all (fD g) j.aQ) (aa (dL g v.rv j.ring) (aa (dh g v.lv j.hp) (aa (hpA g j.hp) B)))))))))by unfold aW;ac_rfl);obtain⟨G,H,ha,hb,d,e⟩:=h2;refine(Ky x (yY j v) c j.pull v.pv w G rfl ha (by omega)).mono ?_;rintro e' w'⟨rfl,G9,hg⟩;refine⟨rfl,(aO hb hg d e).mono fun F' h'=> ?_⟩;unfold jA;rw[bH];refine⟨{v with pv:=G9},aA h' ?_⟩;have:blk x (.cells ((yY j v).setIfInBounds 10 G9) 88 (0,0))=dB x {j with pull:=j.pull.erase c} {v with pv:=G9}:=rfl;rw[this];unfold aW;dsimp only
 ac_rfl
theorem wm{c:Int}{ws:List Int}:(c::ws).erase c=ws:=List.erase_cons_head ..
theorem Wf.turn(wf:Wf j){t:Tr}(ht:t∈j.aQ)(hb:j.ring.length<=16777200):Wf (j.turn t):=by
 by_cases he:t.wt= []
 ·have:j.turn t=j:=by unfold Js.turn;rw[if_pos he]
  rw[this];exact wf
 ·have e:(j.turn t).ring=j.ring.erase t.nm++ [t.nm]:=by unfold Js.turn;rw[if_neg he]
  refine⟨wf.rid,wf.nX,wf.wts,fun n hn=> ?_,wf.fu,wf.b1, ?_,wf.b3,wf.b4,wf.b5,wf.b6,wf.b7,wf.b8,wf.al⟩
  ·rw[e]at hn;rcases List.mem_append.1 hn with h|h
   ·exact wf.ring n (List.mem_of_mem_erase h)
   ·rw[b9.1 h];exact az.2 ⟨t,ht,rfl⟩
  ·rw[e,aH];have h2:(j.ring.erase t.nm).length<=j.ring.length:=List.length_erase_le ..;simp only[List.length_cons,List.length_nil];omega
theorem TY{α κ:Type} [DecidableEq κ]{k:α->κ}{c:κ}{f1 f2:α->α}{l:List α}(h: ∀y,k (f1 y)=k y):upd k c f2 (upd k c f1 l)=upd k c (fun y=>f2 (f1 y)) l:=by
 unfold upd;rw[aB];refine bz fun y _=> ?_;simp only[Function.comp_def];by_cases e:k y=c
 ·rw[if_pos e,if_pos (by rw[h];exact e),if_pos e]
 ·rw[if_neg e,if_neg e,if_neg e]
theorem Sy(wf:Wf j){r:Rr}{t:Tr}{a:At}(hr:r∈j.reqs)(ht:t∈j.aQ)(ea:a.id=r.q.id){c:Int}{ws:List Int}(hp:j.pull=c::ws)(ba:List At):((({j with pull:=j.pull.erase c}:Js).left t r.q.id).turn {t with wt:=t.wt.erase r.q.id}).begin r {t with wt:=t.wt.erase r.q.id} a ba=j.gave t a ba:=by
 have e1:upd (fun t:Tr=>t.nm) t.nm (fun _=>{t with wt:=t.wt.erase r.q.id,rn:=t.rn+1}) (upd (fun t:Tr=>t.nm) t.nm (fun t=>{t with wt:=t.wt.erase r.q.id}) j.aQ)=upd (fun t:Tr=>t.nm) t.nm (fun t=>{t with wt:=t.wt.erase r.q.id,rn:=t.rn+1}) j.aQ:=by rw[TY (f1:=fun t:Tr=>{t with wt:=t.wt.erase r.q.id}) (fun _=>rfl),jd (k:=fun t:Tr=>t.nm) wf.nX ht (fun t=>{t with wt:=t.wt.erase r.q.id,rn:=t.rn+1})]
 have e2:=jd (k:=fun r:Rr=>r.q.id) wf.rid hr (fun r=>⟨{r.q with n:=r.q.n+1},r.al++ [a.n]⟩);unfold Js.begin Js.at2 Js.turn Js.left Js.gave;dsimp only;rw[e1,ea,e2,hp,wm];by_cases he:t.wt.erase r.q.id= []
 ·simp[he]
 ·simp[he]
end
end Pj
namespace Pj
open Go.RowKit aJ Mc
theorem SB{base x tb:Nat}{g:Gh}{cn:List (Int×Nat×Bs)}{s:St}{w:World}{F:Ft}{n:Nat}(T:Tabs base w)(h:(stA base x tb g cn s).holds w F)(hs:Sd n s)(hn:n<=16775000){c:Int}{ws:List Int}{k:Nat}{l:Ln}{id:Int}{q:Rq}(hw:s.wait=c::ws)(hl:s.ring[k]?=some l)(hid:l.ids.head?=some id)(hq:s.req id=some q)(bx:Nat)(uo:bx<w.heap.size)(NN: ¬F bx)(vU:w.cell? ⟨bx,0,none⟩=some (pt x)):Calls prog 73 #[pt x, .int .i64 c] w fun e w1=>e= .returned (.tuple #[])∧w1.cell? ⟨bx,0,none⟩=some (pt x)∧Hid (Calls prog 74 #[pt x,pt (g.rp id)] w1 fun e w2=>e= .returned (.tuple #[])∧w2.cell? ⟨bx,0,none⟩=some (pt x)∧Hid (Calls prog 75 #[pt x,pt (g.tp l.ten)] w2 fun e w3=>e= .returned (.tuple #[])∧w3.cell? ⟨bx,0,none⟩=some (pt x)∧Hid (Calls prog 76 #[pt x,pt tb, .int .i64 c,pt (g.rp id)] w3 fun e w4=>e= .returned (.tuple #[])∧ ∃g',Goes (stA base x tb g' cn (s.give c ws k)) w F w4))):=by
 obtain⟨j,r1,r2,r3,hF,hh⟩:=h;have hz:=hs.sz;have wf:=dJ r1 hs.inv (by omega);obtain⟨r,hr,t,ht,er,ei,et,zn,BO⟩:=gI r1 hq;have IU:=cJ hl;have zx:s.ten id=l.ten:=St.yM hs.inv ((hs.inv.ring l IU).2 id (List.mem_of_head? hid));have etl:t.nm=l.ten:=by rw[<-zn,zx]
 subst er;subst ei;have IX:j.pull=c::ws:=by rw[r1.pull,hw]
 have hcell: ∀{A:aJ} {w'},Goes A w F w'->w'.cell? ⟨bx,0,none⟩=some (pt x):=fun hg=>by obtain⟨_,_,o,_⟩:=hg;rw[o.cell (p:=⟨bx,0,none⟩) uo NN];exact vU
 have e1:({j with pull:=j.pull.erase c}:Js)={j with pull:=ws}:=by rw[IX,wm]
 have R1:Rel g {j with pull:=ws} {s with wait:=ws}:=r1.pulls ws;have Wi:=hs.inv.wt;rw[hw,List.nodup_cons]at Wi;have I1:Inv {s with wait:=ws}:=⟨hs.inv.rid,hs.inv.bF,hs.inv.ring,hs.inv.fu,hs.inv.once,hs.inv.cn,Wi.2⟩;have z1:({s with wait:=ws}:St).sz<=16777000:=by unfold St.sz at hz⊢;rw[hw]at hz;simp only[List.length_cons]at hz;dsimp only;omega
 have wf1:=dJ R1 I1 z1;have R2:Rel g (({j with pull:=ws}:Js).left t r.q.id) (({s with wait:=ws}:St).left r.q.id):=R1.left I1 ht zn.symm;have I2:=St.rO I1 r.q.id;have z2:(({s with wait:=ws}:St).left r.q.id).sz<=16777000:=z1;have wf2:=dJ R2 I2 z2;have ZM:({t with wt:=t.wt.erase r.q.id}:Tr)∈(({j with pull:=ws}:Js).left t r.q.id).aQ:=BJ (f:=fun t:Tr=>{t with wt:=t.wt.erase r.q.id}) ht rfl;have nJ:(({j with pull:=ws}:Js).left t r.q.id).ring.length<=16777200:=by
  rw[R2.ring,aF];have:=St.D5 I2;have h2:(({s with wait:=ws}:St).left r.q.id).reqs.length<=s.sz:=by show s.reqs.length<=s.sz;unfold St.sz;omega
  omega
 have wf3:=wf2.turn ZM nJ;refine(Bf hh (by have:=wf.b3;omega) c).mono ?_;rintro e w1⟨rfl,g1⟩;rw[e1]at g1;refine⟨rfl,hcell g1, ?_⟩;obtain⟨F1,bU,o1,n1⟩:=g1;show Calls _ _ _ _ _;refine(gR bU fun G hG=>Du x g _ r t w1 G hG wf1 hr ht et).mono ?_;rintro e w2⟨rfl,g2⟩;have g2':=aC o1 n1 g2;refine⟨rfl,hcell g2', ?_⟩;obtain⟨F2,gV,o2,n2⟩:=g2';show Calls _ _ _ _ _;rw[<-etl];refine(gR gV fun G hG=>Q4 x g _ r {t with wt:=t.wt.erase r.q.id} w2 G hG wf2 hr ZM).mono ?_;rintro e w3⟨rfl,g3⟩;have Xn:=aC o2 n2 g3;refine⟨rfl,hcell Xn, ?_⟩;have T3:=T.goes hF Xn;obtain⟨F3,mB,o3,n3⟩:=Xn;show Calls _ _ _ _ _;obtain⟨a,ea⟩: ∃a:At,a=⟨r.q.id,r.q.n+1,c,s.now,s.now+s.c.le⟩:=⟨_,rfl⟩;have wE:r.q∈s.reqs:=cI hq;have my:=hs.bd.rq r.q wE;have eka:key a=(r.q.id,r.q.n+1):=by rw[ea];rfl
 have fr: ∀b∈s.ah,key b≠key a:=fun b hb e=>by rw[eka]at e;have e1:b.id=r.q.id:=congrArg Prod.fst e;have e2:b.n=r.q.n+1:=congrArg Prod.snd e;have:=hs.ok.num b hb r.q wE e1.symm;omega
 have hgi:=St.vt (c:=c) (ws:=ws) hl hid hq;have hinv:=St.kQ hs.inv c ws (by rw[hw];exact List.sublist_cons_self ..) k;rw[hgi]at hinv;have dc:=St.A8 hw k;rw[hgi,St.fB]at dc;have GF:(s.giving c ws k l r.q.id r.q).req r.q.id=some {r.q with n:=r.q.n+1}:=by have:=St.jz hs.inv r.q.id r.q.id (fun r=>{r with n:=r.n+1}) (fun _=>rfl);rw[hq]at this;simp only[Option.map_some,if_true]at this;exact this
 have B:Beg base x tb g cn ((({j with pull:=ws}:Js).left t r.q.id).turn {t with wt:=t.wt.erase r.q.id}) r {t with wt:=t.wt.erase r.q.id} c a w3.heap.size (s.giving c ws k l r.q.id r.q):=
  {wf:=wf3,hr:=hr,ht:=ZM,et:=et,ea:=by rw[ea];show _=(⟨r.q.id,r.q.n+1,c,j.now,j.now+j.c.le⟩:At);rw[r1.now,r1.c],f1:=fun b hb=>fr b (r1.hp.subset hb),f2:=fun y hy m hm e=>by
    have NY:y∈j.reqs:=hy;rw[r1.al y NY]at hm;obtain⟨b,hb,b1,b2⟩:=mY.1 hm;exact fr b hb (by rw[<-e];unfold key;rw[b1,b2])
   heap:=r1.heap
   cw:=⟨r2.1,fun d hd=>r2.2 d (by rw[IX];exact aV _ hd)⟩
   hc:=r2.2 c (by rw[IX];exact bY ..)
   hcn:=r3
   rel:=fun ba dy uv=>by have LR:=Sy wf (a:=a) hr ht (by rw[ea]) IX ba;rw[e1]at LR;rw[LR];exact r1.gave hs.inv hw hl hid hq ht etl ea (fun y hy=>Gh.vA (fr y hy)) (by rw[Gh.Qd];show((j.begun:Int))+1=_;rw[r1.begun]) ba dy uv
   inv:=⟨hinv.rid,hinv.bF,hinv.ring,hinv.fu,hinv.once,hinv.cn,hinv.wt⟩
   sz:=by omega
   req:=GF
   bF:=by show a∈s.ah++ [_];rw[ea];simp
   ok:=⟨my.id,by have:=my.n;rw[hw]at this;simp only[List.length_cons]at this;omega,my.left,my.ten,my.txt⟩
   now:=by have:=hs.bd.now;show 0<=j.now∧j.now<=_;rw[r1.now];exact this
   le:=by have:=hs.bd.c.le;show 0<=j.c.le∧j.c.le<=20;rw[r1.c];omega
   beg:=by show j.begun<=_;rw[r1.begun];unfold St.sz at hz;omega}
 have aax: ∀k,F3 k->base<=k:=fun k hk=>by
  rcases n3 k hk with e|e
  ·exact hF k e
  ·exact ar T.1 e
 refine(s7 (s':=s.giving c ws k l r.q.id r.q) T3 aax mB B).mono ?_;rintro e w4⟨rfl,g4⟩;have g5:=aC o3 n3 g4;rw[<-hgi]at g5;exact⟨rfl,_,g5⟩
end Pj
namespace Pj
open Go.RowKit aJ Mc
attribute [local go_sem] ae ag
theorem J5(p bx x:Nat)(rn ca:Int)(w:World)(hp:w.cell? ⟨p,2,none⟩=some (.int .i64 rn))(hb:w.cell? ⟨bx,0,none⟩=some (.pointer (some ⟨x,0,none⟩)))(hx:w.cell? ⟨x,2,none⟩=some (.int .i64 ca)):Calls prog 72 #[.pointer (some ⟨p,0,none⟩), .pointer (some ⟨bx,0,none⟩)] w fun e w'=>e= .returned (.bool (decide (rn<ca)))∧ ∃q,w'=w.drewN q:=by
 go_enter func72,ntmps72;go_wp2
 go_quiet (fail)
 go_wp2;go_ret;exact⟨rfl,_,rfl⟩
section
variable{base x tb:Nat}{g:Gh}{cn:List (Int×Nat×Bs)}{s:St}{j:Js}{w w':World}{F:Ft}
theorem Oc{v:Dv}(h:(aW x g j v).holds w F){t:Tr}(ht:t∈j.aQ): ∃wv G,w.heap[g.tp t.nm]?=some (.cells (Hw t wv) 92 (0,0))∧(jH g wv t.wt).holds w G:=by
 have e:aW x g j v=aa (all (fD g) j.aQ) (aa (dB x j v) (aa (iU v.cm j.bu) (aa (ib g v.rm j.reqs) (aa (gK g v.tm j.aQ) (aa (all gM j.bu) (aa (all (fc g j.c.re) j.reqs) (aa (dL g v.rv j.ring) (aa (gN v.pv j.pull) (aa (dh g v.lv j.hp) (hpA g j.hp)))))))))):=by unfold aW;ac_rfl
 obtain⟨G,hG,_⟩:=aJ.left (aA h e);obtain⟨G',wv,mQ⟩:=Mr.vP hG t ht;obtain⟨G1,G2,a1,a2,_⟩:=id mQ;exact⟨wv,G2,(cK mQ).1,a2⟩
structure Hand(g:Gh)(x bx:Nat)(s:St)(w:World)(ao:Option Addr)(cap:Nat)(Ul:Option Addr)(Cs:Nat):Prop where
 pu:w.cell? ⟨x,10,none⟩=some (.slice ao s.wait.length cap)
 pu0: ∀c ws,s.wait=c::ws-> ∃b off,ao=some ⟨b,off,none⟩∧w.cell? ⟨b,off,none⟩=some (.int .i64 c)
 ri:w.cell? ⟨x,9,none⟩=some (.slice Ul s.ring.length Cs)
 Co:s.wait.length<=16777210∧s.ring.length<=16777210
 find:Calls prog 71 #[.slice Ul s.ring.length Cs, .func (.func 72) #[] #[pt bx]] w fun e w'=>e= .returned (ep ((s.ring.find? fun l=>decide ((s.runs l.ten:Int)<s.c.ca)).map fun l=>g.tp l.ten))∧ ∃q,w'=w.drewN q
 wt: ∀l∈s.ring,∀id,l.ids.head?=some id-> ∃b off cp,w.cell? ⟨g.tp l.ten,1,none⟩=some (.slice (some ⟨b,off,none⟩) l.ids.length cp)∧w.cell? ⟨b,off,none⟩=some (pt (g.rp id))∧0<l.ids.length∧l.ids.length<=16777210
theorem zY(h:(stA base x tb g cn s).holds w F)(hi:Inv s)(hz:s.sz<=16777000)(bx:Nat)(vU:w.cell? ⟨bx,0,none⟩=some (pt x)): ∃ao cap Ul Cs,Hand g x bx s w ao cap Ul Cs:=by
 obtain⟨j,r1,r2,r3,hF,hh⟩:=h;have wf:=dJ r1 hi hz;unfold jA at hh;rw[bH]at hh;obtain⟨v,hv⟩:=hh;obtain⟨Gj,oh,_⟩:=aJ.left hv;have D:=wJ oh;have hPU: ∃G,(gN v.pv j.pull).holds w G:=by obtain⟨G,hG,_⟩:=aJ.left (aA oh (show _=aa (gN v.pv j.pull) (aa (dB x j v) (aa (iU v.cm j.bu) (aa (ib g v.rm j.reqs) (aa (gK g v.tm j.aQ) (aa (all gM j.bu) (aa (all (fc g j.c.re) j.reqs) (aa (all (fD g) j.aQ) (aa (dL g v.rv j.ring) (aa (dh g v.lv j.hp) (hpA g j.hp))))))))))by unfold aW;ac_rfl));exact⟨G,hG⟩
 have hRI: ∃G,(dL g v.rv j.ring).holds w G:=by obtain⟨G,hG,_⟩:=aJ.left (aA oh (show _=aa (dL g v.rv j.ring) (aa (dB x j v) (aa (iU v.cm j.bu) (aa (ib g v.rm j.reqs) (aa (gK g v.tm j.aQ) (aa (all gM j.bu) (aa (all (fc g j.c.re) j.reqs) (aa (all (fD g) j.aQ) (aa (gN v.pv j.pull) (aa (dh g v.lv j.hp) (hpA g j.hp))))))))))by unfold aW;ac_rfl));exact⟨G,hG⟩
 obtain⟨Gp,J4⟩:=hPU;obtain⟨Gr,pX⟩:=hRI;obtain⟨ao,cap,ep'⟩:=aR (Goes.refl J4);obtain⟨Ul,Cs,er'⟩:=aR (Goes.refl pX);have lw:j.pull.length=s.wait.length:=by rw[r1.pull]
 have lr:j.ring.length=s.ring.length:=by rw[r1.ring,aF]
 have b2:=wf.b2;have b3:=wf.b3;have zf: ∀l∈s.ring,∃t∈j.aQ,t.nm=l.ten:=fun l hl=>by obtain⟨t,ht,e⟩:=az.1 (wf.ring l.ten (by rw[r1.ring];exact az.2 ⟨l,hl,rfl⟩));exact⟨t,ht,e⟩
 refine⟨ao,cap,Ul,Cs,by rw[D.1 10];show some v.pv=_;rw[ep',lw],fun c ws hw=> ?_,by rw[D.1 9];show some v.rv=_;rw[er',lr],⟨by omega,by omega⟩, ?_,fun l hl id hid=> ?_⟩
 ·have hG:=J4;unfold gN at hG;have:j.pull=c::ws:=by rw[r1.pull,hw]
  rw[ep',this,List.map_cons]at hG;obtain⟨b,off,cp,e1,e2⟩:=nT hG (by simp);cases e1;exact⟨b,off,rfl,e2⟩
 ·have hG:=pX;unfold dL at hG;rw[er',lr,r1.ring,aB]at hG;have hf:=fiT (.slice Ul s.ring.length Cs) s.ring (fun l=>g.tp l.ten) (fun l=>decide ((s.runs l.ten:Int)<s.c.ca)) 72 #[pt bx] (enters_of func72 (by kernel_rfl) rfl) w Gr hG (fun wr hB l hl=> ?_) (by omega)
  ·exact hf
  ·obtain⟨t,ht,et⟩:=zf l hl;obtain⟨wv,G,hb,_⟩:=Oc oh ht;rw[et]at hb;have aN:g.tp l.ten<w.heap.size:=(cC.1 hb).1;have lC:bx<w.heap.size:=World.block_lt_of_cell? w ⟨bx,0,none⟩ vU;refine J5 _ bx x _ _ wr ?_ ?_ ?_
   ·rw[hB.cell (p:=⟨_,2,none⟩) aN];simp only[World.cell?,hb];show some (Value.int .i64 t.rn)=_;rw[r1.rn t ht,et]
   ·rw[hB.cell (p:=⟨_,0,none⟩) lC];exact vU
   ·rw[hB.cell (p:=⟨_,2,none⟩) D.2.2,D.1 2];show some (Value.int .i64 j.c.ca)=_;rw[r1.c]
 ·obtain⟨t,ht,et⟩:=zf l hl;obtain⟨wv,G,hb,hG⟩:=Oc oh ht;have ew:t.wt=l.ids:=by rw[r1.wt t ht,et,St.js hi hl]
  obtain⟨l',el⟩: ∃l',l.ids=id::l':=by
   cases LS:l.ids with
   |nil=>rw[LS]at hid;cases hid
   |cons y l'=>rw[LS]at hid;simp at hid;exact⟨l',by rw[hid]⟩
  have tC:=wf.b1 t ht;rw[ew]at tC;unfold jH at hG;rw[ew,el,List.map_cons]at hG;obtain⟨b,off,cp,e1,e2⟩:=nT hG (by simp);refine⟨b,off,cp, ?_,e2,by rw[el];simp,tC⟩;rw[<-et];simp only[World.cell?,hb];show some wv=_;rw[e1,el]
end
variable{n f:Nat}{s:St}
theorem Sd.give(h:Sd n s){c:Int}{ws:List Int}(hw:s.wait=c::ws)(k:Nat):Sd n (s.give c ws k):=
 ⟨St.kQ h.inv c ws (by rw[hw];exact List.sublist_cons_self ..) k,h.ok.give h.inv c ws k hw,ar (St.A8 hw k) h.sz,h.bd.give hw k⟩
theorem Hl(h:s.wait= []):St.bR f s=s:=by
 cases f with
 |zero=>rfl
 |succ f=>unfold St.bR;rw[h]
theorem D9(h:s.ring.find? (fun l=>decide ((s.runs l.ten:Int)<s.c.ca))=none):St.bR f s=s:=by
 cases f with
 |zero=>rfl
 |succ f=>
  unfold St.bR;split
  ·rfl
  ·have:s.ring.findIdx? (fun l=>decide ((s.runs l.ten:Int)<s.c.ca))=none:=by
    rw[List.findIdx?_eq_none_iff];intro l hl;have:=List.find?_eq_none.1 h l hl;simpa using this
   rw[this]
theorem CR{α:Type}{p:α->Bool}: ∀{l:List α} {y:α},l.find? p=some y-> ∃k,l.findIdx? p=some k∧l[k]?=some y
 | [],y,h=>by cases h
 |z::l,y,h=>by
  rw[List.find?_cons]at h;rw[List.findIdx?_cons];cases hp:p z with
  |true=>rw[hp]at h;simp at h;exact⟨0,by simp,by simp[h]⟩
  |false=>rw[hp]at h;obtain⟨k,h1,h2⟩:=CR h;exact⟨k+1,by simp[h1],by simpa using h2⟩
def DY(x:Nat)(w:World):Nat:=match w.cell? ⟨x,10,none⟩with|some (.slice _ n _)=>n|_=>0
structure AK(base x tb:Nat)(cn:List (Int×Nat×Bs))(n:Nat)(s:St)(w:World)(F:Ft)(g':Gh)(s':St)(wr:World):Prop where
 sd:Sd n s'
 goes:Goes (stA base x tb g' cn s') w F wr
 done: ∃f,s'.wait.length<=f∧St.bR f s'=s.serve
theorem wC{base x tb:Nat}{g:Gh}{cn:List (Int×Nat×Bs)}{w:World}{F:Ft}(T:Tabs base w)(h:(stA base x tb g cn s).holds w F)(hs:Sd n s)(hn:n<=16775000):Calls prog 42 #[pt x,pt tb] w fun e w'=>e= .returned (.tuple #[])∧ ∃g',Goes (stA base x tb g' cn s.serve) w F w':=by
 obtain⟨w1,i7⟩: ∃w1,w1=w.alloc (.cells #[pt x] 40):=⟨_,rfl⟩;obtain⟨bx,uo⟩: ∃bx,bx=w.heap.size:=⟨_,rfl⟩;have HT:Hid (Tabs base w1):=by show Tabs base w1;rw[i7];exact T.new ((au _ _).alloc (af _) _)
 have HF:=hide (cB h);have lC:bx<w1.heap.size:=by rw[i7,uo];simp
 have NN: ¬F bx:=fun hf=>by have:=aJ.lt _ h bx hf;omega
 have cb1:w1.cell? ⟨bx,0,none⟩=some (pt x):=by rw[i7,uo];simp only[World.cell?,heap_alloc_new];rfl
 have yV:Hid (AK base x tb cn n s w1 F g s w1):=⟨hs,by rw[i7];exact Goes.refl (dM h _),_,af _,rfl⟩;have oa:Hid (∀(s2:St) (g':Gh) w',Goes (stA base x tb g' cn s2) w1 F w'->Goes (stA base x tb g' cn s2) w F w'):=fun s2 g' w' hg=>by rw[i7]at hg;exact dx hg
 have HCB:Hid (∀{A:aJ} {w'},Goes A w1 F w'->w'.cell? ⟨bx,0,none⟩=some (pt x)):=fun hg=>by obtain⟨_,_,o,_⟩:=hg;rw[o.cell (p:=⟨bx,0,none⟩) lC NN];exact cb1
 have HNF:=hide NN;clear T h hs cb1 NN;unfold pt at*;go_enter func42,ntmps42;go_wp2;rw[<-uo,<-i7];clear i7 uo;go_loopw [] (fun wr=> ∃(g':Gh) (s':St),Hid (AK base x tb cn n s w1 F g' s' wr)) (fun wr=>DY x wr)
 case atStart=>exact⟨g,s,yV⟩
 case round=>
  obtain⟨g',s',iC⟩:=hrel;have hz:=iC.out.sd.sz;have cb:=HCB.out iC.out.goes;have T1:=HT.out.goes HF.out iC.out.goes;obtain⟨F1,bU,o1,n1⟩:=iC.out.goes;obtain⟨ao,cap,Ul,Cs,HD⟩:=zY bU iC.out.sd.inv (by omega) bx cb;have hlen:DY x wr=s'.wait.length:=by unfold DY;rw[HD.pu]
  have uU:=hide hlen;have c10:=HD.pu;have c9:=HD.ri;have J8:=HD.Co;cases zb:s'.wait with
  |nil=>
   have HX:Hid (∃g',Goes (stA base x tb g' cn s.serve) w F wr):=by obtain⟨f,_,e⟩:=iC.out.done;rw[Hl zb]at e;exact⟨g',oa.out _ _ _ (by rw[<-e];exact iC.out.goes)⟩
   rw[zb]at c10;clear iC HD bU o1 n1 hlen J8 T1;go_wp2;go_end0;exact⟨rfl,HX.out⟩
  |cons c ws=>
   obtain⟨b,off,rfl,cb0⟩:=HD.pu0 c ws zb;have iA:s'.wait.length=ws.length+1:=by rw[zb];rfl
   have B7:=hide HD.find;have NU:(0:Int)<((ws.length:Nat):Int)+1:=by omega
   cases Zl:(s'.ring.find? fun l=>decide ((s'.runs l.ten:Int)<s'.c.ca))with
   |none=>
    have HX:Hid (∀q,∃g',Goes (stA base x tb g' cn s.serve) w F (wr.drewN q)):=fun q=>by obtain⟨f,_,e⟩:=iC.out.done;rw[D9 Zl]at e;exact⟨g',oa.out _ _ _ (by rw[<-e];exact iC.out.goes.drewN q)⟩
    rw[Zl]at B7;change Hid (Calls prog 71 _ wr fun e w'=>e= .returned (.pointer none)∧ ∃q,w'=wr.drewN q)at B7;rw[iA]at c10 J8;clear iC HD bU o1 n1 hlen T1;unfold pt at*;generalize ws.length=nw at*;generalize s'.ring.length=nr at*;go_wp2_with (first
     |(go_at_call 71;go_must(refine B7.out.mono ?_;rintro e w2⟨rfl,q,rfl⟩)))
    exact bodyPost_ret (results_none rfl _ _ _) rfl ⟨rfl,HX.out q⟩
   |some l=>
    obtain⟨k,hk,hl⟩:=CR Zl;obtain⟨id,q,hid,hq,hqt⟩:=St.yE iC.out.sd.inv hl;have IU:=cJ hl;obtain⟨b2,abe,pS,ct1,cb2,A9,Xw⟩:=HD.wt l IU id hid;rw[Zl]at B7;change Hid (Calls prog 71 _ wr fun e w'=>e= .returned (.pointer (some ⟨g'.tp l.ten,0,none⟩))∧ ∃q,w'=wr.drewN q)at B7;have HGV:Hid (∀q0,Calls prog 73 #[.pointer (some ⟨x,0,none⟩), .int .i64 c] (wr.drewN q0) fun e w1=>e= .returned (.tuple #[])∧w1.cell? ⟨bx,0,none⟩=some (.pointer (some ⟨x,0,none⟩))∧
      Hid (Calls prog 74 #[.pointer (some ⟨x,0,none⟩), .pointer (some ⟨g'.rp id,0,none⟩)] w1 fun e w2=>e= .returned (.tuple #[])∧w2.cell? ⟨bx,0,none⟩=some (.pointer (some ⟨x,0,none⟩))∧
       Hid (Calls prog 75 #[.pointer (some ⟨x,0,none⟩), .pointer (some ⟨g'.tp l.ten,0,none⟩)] w2 fun e w3=>e= .returned (.tuple #[])∧w3.cell? ⟨bx,0,none⟩=some (.pointer (some ⟨x,0,none⟩))∧
        Hid (Calls prog 76 #[.pointer (some ⟨x,0,none⟩), .pointer (some ⟨tb,0,none⟩), .int .i64 c, .pointer (some ⟨g'.rp id,0,none⟩)] w3 fun e w4=>e= .returned (.tuple #[])∧ ∃Nq,Goes (stA base x tb Nq cn (s'.give c ws k)) (wr.drewN q0) F1 w4)))):=fun q0=>
     SB (T1.below (s8 (au _ _) q0)) (bI bU q0) iC.out.sd (by omega) zb hl hid hq bx (by have:=o1.size;show bx<wr.heap.size;omega) (fun hf=>by
      rcases n1 bx hf with e|e
      ·exact HNF.out e
      ·omega) cb
    have EP:Hid (∀q0 w4 Nq,Goes (stA base x tb Nq cn (s'.give c ws k)) (wr.drewN q0) F1 w4->AK base x tb cn n s w1 F Nq (s'.give c ws k) w4∧DY x w4<s'.wait.length):=fun q0 w4 Nq hg=>by
     have jI:=aC o1 n1 (df hg);have uz:=iC.out.sd.give zb k;have hwg:(s'.give c ws k).wait=ws:=by rw[St.vt hl hid hq];rfl
     refine⟨⟨uz,jI, ?_⟩, ?_⟩
     ·obtain⟨f,hf,e⟩:=iC.out.done;rw[iA]at hf;obtain⟨f',rfl⟩: ∃f',f=f'+1:=⟨f-1,by omega⟩;refine⟨f',by rw[hwg];omega, ?_⟩;rw[<-e]
      conv=>rhs;unfold St.bR
      rw[zb];dsimp only;rw[hk]
     ·have cb4:=HCB.out jI;obtain⟨F4,zq,_⟩:=jI;obtain⟨_,_,_,_,HD4⟩:=zY zq uz.inv (by have:=uz.sz;omega) bx cb4;unfold DY;rw[HD4.pu];dsimp only;rw[hwg,iA];omega
    rw[iA]at c10 J8 EP uU;clear iC HD bU o1 n1 hlen T1 hq hqt hk hl IU hid Zl yV oa HCB HNF HT HF;unfold pt at*;generalize ws.length=nw at*;generalize s'.ring.length=nr at*;generalize l.ids.length=ni at*;generalize g'.tp l.ten=tp at*;generalize g'.rp id=rp at*;go_wp2_with (first
     |(go_at_call 71;go_must(refine B7.out.mono ?_;rintro e w2⟨rfl,q0,rfl⟩)))
    go_quiet (fail)
    go_wp2_with (first
     |(go_at_call 73;go_must(refine(HGV.out _).mono ?_;rintro e w3⟨rfl,y1,Xc⟩;clear HGV B7))
     |(go_at_call 74;go_must(refine Xc.out.mono ?_;rintro e w4⟨rfl,y2,Xd⟩;clear Xc))
     |(go_at_call 75;go_must(refine Xd.out.mono ?_;rintro e w5⟨rfl,y3,HC3⟩;clear Xd))
     |(go_at_call 76;go_must(refine HC3.out.mono ?_;rintro e w6⟨rfl,Nq,tD⟩;obtain⟨hsv,UB⟩:=EP.out _ _ _ tD;have aag:=hide hsv;have Ya:=hide UB;clear HC3 tD hsv UB)))
    go_roundw
    case rel=>exact⟨Nq,_,aag⟩
    case measure=>have:=Ya.out;have:=uU.out;omega
variable{s:St}
theorem Xa(w:World):(zeroValue 124).run prog w= .ok (.pointer none) w:=by kernel_rfl
section
variable{base x tb:Nat}{g:Gh}{cn:List (Int×Nat×Bs)}{s:St}{w:World}{F:Ft}
theorem yn(h:(stA base x tb g cn s).holds w F)(hi:Inv s)(id:Int)(hid:I6 id): ∃rm,w.cell? ⟨x,7,none⟩=some (.map (some rm))∧x<w.heap.size∧ ∀w1,Below w.heap.size w w1->(Instr.lookup 82 (.map (some rm)) (.int .i64 id) false).run prog w1= .ok (match s.req id with|some _=>pt (g.rp id)|none=> .pointer none) w1:=by
 obtain⟨j,r1,r2,r3,hF,hh⟩:=h;unfold jA at hh;rw[bH]at hh;obtain⟨v,hv⟩:=hh;obtain⟨Gj,oh,_⟩:=aJ.left hv;have D:=wJ oh;refine⟨v.rm,D.1 7,D.2.2,fun w1 hB=> ?_⟩;obtain⟨G,hG,_⟩:=aJ.left (aA oh (show _=aa (ib g v.rm j.reqs) (aa (dB x j v) (aa (iU v.cm j.bu) (aa (gK g v.tm j.aQ) (aa (all gM j.bu) (aa (all (fc g j.c.re) j.reqs) (aa (all (fD g) j.aQ) (aa (dL g v.rv j.ring) (aa (gN v.pv j.pull) (aa (dh g v.lv j.hp) (hpA g j.hp))))))))))by unfold aW;ac_rfl));have nH:=kV (Mr.aI hG hB) (t:=82) (e:=124) underlying82 (Xa w1) id hid;have Ko:(Instr.lookup 82 (.map (some v.rm)) (.int .i64 id) false).run prog w1= .ok (pH (j.reqs.map fun r=>(r.q.id,g.rp r.q.id)) id) w1:=nH;rw[Ko];have uw:(j.reqs.map fun r=>(r.q.id,g.rp r.q.id)).map (·.1)=s.reqs.map (·.id):=by rw[<-r1.reqs,aB,aB];rfl
 have iL:=hi.rid;unfold St.ks at iL;rw[aB]at iL;cases hq:s.req id with
 |none=>
  have:id∉(j.reqs.map fun r=>(r.q.id,g.rp r.q.id)).map (·.1):=by rw[uw];intro hm;obtain⟨r,hr,e⟩:=az.1 hm;exact List.find?_eq_none.1 hq r hr (by simpa using e)
  rw[jx this]
 |some q=>obtain⟨r,hr,t,ht,er,ei,et,zn,BO⟩:=gI r1 hq;have hl:=jy (m:=j.reqs.map fun r=>(r.q.id,g.rp r.q.id)) (by rw[uw];exact iL) (az.2 ⟨r,hr,rfl⟩);dsimp only at hl;rw[er,ei]at hl;rw[hl]
end
theorem Mo(p nb cb:Nat)(n m c d:Int)(w:World)(h0:w.cell? ⟨p,0,none⟩=some (.int .i64 n))(h2:w.cell? ⟨p,2,none⟩=some (.int .i64 d))(hn:w.cell? ⟨nb,0,none⟩=some (.int .i64 m))(hc:w.cell? ⟨cb,0,none⟩=some (.int .i64 c)):Calls prog 225 #[.pointer (some ⟨p,0,none⟩), .pointer (some ⟨nb,0,none⟩), .pointer (some ⟨cb,0,none⟩)] w fun e w'=>e= .returned (.bool (n==m &&d==c))∧ ∃q,w'=w.drewN q:=by
 cases V5:(n==m)with
 |true=>
  go_enter func225,ntmps225;go_wp2
  go_quiet (fail)
  go_wp2;go_ret;exact⟨by simp,_,rfl⟩
 |false=>
  go_enter func225,ntmps225;go_wp2
  go_quiet (fail)
  go_wp2;go_ret;exact⟨by simp,_,rfl⟩
theorem JY(ho:Ok s)(c id m:Int):(((s.ah.filter (·.id==id)).find? fun a=>a.n==m &&a.conn==c).map fun a=>(key a:Int×Int))=(s.mine c id m).map fun _=>(id,m):=by
 cases hm:s.mine c id m with
 |none=>
  have h:=St.KM ho hm;have:((s.ah.filter (·.id==id)).find? fun a=>a.n==m &&a.conn==c)=none:=by rw[List.find?_eq_none];intro a ha;rw[aL]at ha;intro e;simp only[bm,beq_iff_eq]at e;exact h a ha.1 ⟨by simpa using ha.2,e.1,e.2⟩
  rw[this];rfl
 |some i=>
  obtain⟨a,h1,h2,h3,h4,_⟩:=St.nN hm;cases hf:((s.ah.filter (·.id==id)).find? fun a=>a.n==m &&a.conn==c)with
  |none=>have:=List.find?_eq_none.1 hf a (aL.2 ⟨cJ h1,by simpa using h2⟩);simp[h3,h4]at this
  |some b=>
   have hb:=cI hf;have hbp:=List.find?_some hf;rw[aL]at hb;simp only[bm,beq_iff_eq]at hbp;have e1:b.id=id:=by simpa using hb.2
   simp only[Option.map_some];unfold key;rw[e1,hbp.1]
theorem ug{base x tb:Nat}{g:Gh}{cn:List (Int×Nat×Bs)}{w:World}{F:Ft}(h:(stA base x tb g cn s).holds w F)(hi:Inv s)(ho:Ok s)(hz:s.sz<=16777000)(c id m:Int)(hid:I6 id):Calls prog 186 #[pt x, .int .i64 c, .int .i64 id, .int .i64 m] w fun e w'=>e= .returned (ep ((s.mine c id m).map fun _=>g.ap (id,m)))∧Below w.heap.size w w':=by
 obtain⟨rm,c7,Kw,AA⟩:=yn h hi id hid;have tB:Below w.heap.size w ((w.alloc (.cells #[.int .i64 c] 3)).alloc (.cells #[.int .i64 m] 3)):=((au _ _).alloc (af _) _).alloc (by simp) _;have nH:=AA _ tB;have c7':((w.alloc (.cells #[.int .i64 c] 3)).alloc (.cells #[.int .i64 m] 3)).cell? ⟨x,7,none⟩=some (.map (some rm)):=by rw[tB.cell (p:=⟨x,7,none⟩) Kw];exact c7
 have HB:=hide tB;cases hq:s.req id with
 |none=>
  rw[hq]at nH;have hm:s.mine c id m=none:=by
   cases hm:s.mine c id m with
   |none=>rfl
   |some i=>obtain⟨a,h1,h2,_⟩:=St.nN hm;obtain⟨q,Kt,_⟩:=St.cu (hi.bF a (cJ h1));rw[h2,hq]at Kt;cases Kt
  rw[hm];have abu:=nH;clear AA h tB nH;unfold pt ep at*;go_enter func186,ntmps186;go_wp2;go_ret;exact⟨rfl,HB.out⟩
 |some q=>
  rw[hq]at nH;obtain⟨ao,cap,dK,cQ,RA⟩:=fL h hi hz hq;have c7r:((w.alloc (.cells #[.int .i64 c] 3)).alloc (.cells #[.int .i64 m] 3)).cell? ⟨g.rp id,7,none⟩=some (.slice ao (s.nums id).length cap):=by rw[tB.cell (p:=⟨g.rp id,7,none⟩) RA.lt.1];exact RA.al
  have B7:Hid (Calls prog 166 #[.slice ao (s.nums id).length cap, .func (.func 225) #[] #[.pointer (some ⟨w.heap.size+1,0,none⟩), .pointer (some ⟨w.heap.size,0,none⟩)]] ((w.alloc (.cells #[.int .i64 c] 3)).alloc (.cells #[.int .i64 m] 3)) fun e w'=>e= .returned (ep ((s.mine c id m).map fun _=>g.ap (id,m)))∧Below w.heap.size w w'):=by
   have h0:=h;obtain⟨j,r1,r2,r3,hF,hh⟩:=h0;have wf:=dJ r1 hi hz;obtain⟨r,hr,t,ht,er,ei,et,zn,BO⟩:=gI r1 hq;obtain⟨v,av,wv,Kl,hw⟩:=mj hh wf hr ht;obtain⟨G0,mv,_⟩:=Q8 hw;have Xl:av= .slice ao (s.nums id).length cap:=by have:=(Rw hw).1 7;rw[er,ei,RA.al]at this;have h2:some av=some (Value.slice ao (s.nums id).length cap):=this.symm;exact Option.some.inj h2
   have hL:(rowA 127 1 (.slice ao (s.nums id).length cap) (s.ah.filter (·.id==id)).length ((s.ah.filter (·.id==id)).map fun a=>pt (g.ap (key a)))).holds w G0:=by
    unfold jh at mv;rw[Xl,BO,er,ei]at mv;have e1:(s.nums id).length=(s.ah.filter (·.id==id)).length:=by unfold St.nums;rw[aF]
    have e2:(s.nums id).map (fun n=>pt (g.ap (id,n)))=(s.ah.filter (·.id==id)).map fun a=>pt (g.ap (key a)):=by
     unfold St.nums;rw[aB];refine bz fun a ha=> ?_;have:a.id=id:=by simpa using(aL.1 ha).2
     simp only[Function.comp_def];unfold key;rw[this]
    rw[e2]at mv;rw[<-e1];exact mv
   have lC:=RA.Co.1;have hfm:=JY ho c id m;show Calls _ _ _ _ _;have hf:=fiA (.slice ao (s.nums id).length cap) (s.ah.filter (·.id==id)) (fun a=>g.ap (key a)) (fun a=>a.n==m &&a.conn==c) 225 #[.pointer (some ⟨w.heap.size+1,0,none⟩), .pointer (some ⟨w.heap.size,0,none⟩)] (enters_of func225 (by kernel_rfl) rfl) _ G0 (Mr.aI hL tB) (fun wr B0 a ha=> ?_) (by unfold St.nums at lC;rw[aF]at lC;omega)
   ·refine hf.mono ?_;rintro e w'⟨rfl,q0,rfl⟩;refine⟨?_,s8 tB q0⟩;have:((s.ah.filter (·.id==id)).find? fun a=>a.n==m &&a.conn==c).map (fun a=>g.ap (key a))=(((s.ah.filter (·.id==id)).find? fun a=>a.n==m &&a.conn==c).map fun a=>(key a:Int×Int)).map g.ap:=by rw[Option.map_map];rfl
    rw[this,hfm,Option.map_map];rfl
   ·rw[aL]at ha;obtain⟨p0,p1,p2,p3⟩:=jD h hi hz ha.1;have aN:g.ap (key a)<w.heap.size:=World.block_lt_of_cell? w ⟨_,0,none⟩ p0;have jJ:=tB.size;refine Mo (g.ap (key a)) (w.heap.size+1) w.heap.size a.n m c a.conn wr ?_ ?_ ?_ ?_
    ·rw[B0.cell (p:=⟨_,0,none⟩) (bD aN jJ),tB.cell (p:=⟨_,0,none⟩) aN];exact p0
    ·rw[B0.cell (p:=⟨_,2,none⟩) (bD aN jJ),tB.cell (p:=⟨_,2,none⟩) aN];exact p2
    ·rw[B0.cell (p:=⟨w.heap.size+1,0,none⟩) (by simp)];have:=heap_alloc_new (w.alloc (.cells #[.int .i64 c] 3)) (.cells #[.int .i64 m] 3);have dc:(w.alloc (.cells #[.int .i64 c] 3)).heap.size=w.heap.size+1:=by simp
     rw[dc]at this;simp only[World.cell?,this];rfl
    ·rw[B0.cell (p:=⟨w.heap.size,0,none⟩) (by simp;omega)];have h1:=heap_alloc_new w (.cells #[.int .i64 c] 3);have h2:=Below.heap_alloc (w.alloc (.cells #[.int .i64 c] 3)) (.cells #[.int .i64 m] 3) w.heap.size (by simp);rw[h1]at h2;simp only[World.cell?,h2];rfl
  clear AA h tB RA c7;unfold pt at*;generalize ep ((s.mine c id m).map fun _=>g.ap (id,m))=oo at*;generalize g.rp id=rp at*;generalize(s.nums id).length=nn at*;go_enter func186,ntmps186;go_wp2_with (first
   |(go_at_call 166;go_must(refine B7.out.mono ?_;rintro e w2⟨rfl,cZ⟩;have Re:=hide cZ;clear cZ)))
  go_ret;exact⟨rfl,Re.out⟩
end Pj
namespace Pj
open Go.RowKit aJ Mc bG
attribute [local go_sem] ae ag
variable{s:St}{base x tb n:Nat}{g:Gh}{cn:List (Int×Nat×Bs)}{w:World}{F:Ft}
theorem QJ(id:Int)(t:Bs):said [.s [118,97,108], .n id, .s t]= [118,97,108,32]++bZ id++ [32]++t:=by simp[said,Lib.join,Part.txt]
theorem Busy.any(h:Busy s (fun _=>False))(P:Int->Prop):Busy s P:=h.mono (fun _ hf=>hf.elim)
def zR(s:St)(c:Int)(m:Mg):St:=
 match s.mine c m.id m.bF with
 |none=>s
 |some i=>match s.req m.id with|none=>s|some r=>((s.say r.conn ([118,97,108,32]++bZ m.id++ [32]++m.txt)).aZ i).shut m.id
def zT(s:St)(c:Int)(m:Mg):St:=match s.mine c m.id m.bF with|none=>s|some i=>(s.aZ i).again m.id true
theorem M8(T:Tabs base w)(h:(stA base x tb g cn s).holds w F)(hs:Sd n s)(hn:n<=16775000)(hb:Busy s (fun _=>False))(c:Int)(m:Mg)(hid:0<=m.id∧m.id<=999999)(htx:m.txt.length<=64):Calls prog 141 #[pt x,pt tb, .int .i64 c, .agg m.cs] w fun e w'=>e= .returned (.tuple #[])∧Goes (stA base x tb g cn (zR s c m)) w F w':=by
 obtain⟨w1,i7⟩: ∃w1,w1=w.alloc (.cells m.cs 149):=⟨_,rfl⟩;obtain⟨bx,uo⟩: ∃bx,bx=w.heap.size:=⟨_,rfl⟩;have tB:Below w.heap.size w w1:=by rw[i7];exact(au _ _).alloc (af _) _
 have T1:=T.new tB;have h1:(stA base x tb g cn s).holds w1 F:=Mr.aI h tB;have lC:bx<w1.heap.size:=by rw[i7,uo];simp
 have NN: ¬F bx:=fun hf=>by have:=aJ.lt _ h bx hf;omega
 have vU: ∀k,w1.cell? ⟨bx,k,none⟩=m.cs[k]?:=fun k=>by rw[i7,uo];simp only[World.cell?,heap_alloc_new];rfl
 have oa:Hid (∀(s2:St) w',Goes (stA base x tb g cn s2) w1 F w'->Goes (stA base x tb g cn s2) w F w'):=fun s2 w' hg=>by rw[i7]at hg;exact dx hg
 have hz:=hs.sz;have Az:=ug h1 hs.inv hs.ok (by omega) c m.id m.bF (I6.of (by omega) (by omega));have b1:w1.cell? ⟨bx,1,none⟩=some (.int .i64 m.id):=vU 1;have b2:w1.cell? ⟨bx,2,none⟩=some (.int .i64 m.bF):=vU 2;have b4:w1.cell? ⟨bx,4,none⟩=some (.string ⟨m.txt.toArray⟩):=vU 4;cases hm:s.mine c m.id m.bF with
 |none=>
  have es:zR s c m=s:=by unfold zR;rw[hm]
  rw[es];have HX:Hid (∀w',Below w1.heap.size w1 w'->Goes (stA base x tb g cn s) w F w'):=fun w' iI=>oa.out _ _ ((Goes.refl h1).below iI);rw[hm]at Az;change Calls prog 186 _ w1 fun e w'=>e= .returned (.pointer none)∧Below w1.heap.size w1 w' at Az;have HW:=hide i7;have L3:=hide uo;clear T h hs tB T1 h1 vU hb NN i7 uo;unfold pt Mg.cs at*;go_enter func141,ntmps141;go_wp2_with fail;rw[<-L3.out,<-HW.out];go_wp2_with (first
   |(go_at_call 186;go_must(refine Az.mono ?_;rintro e w2⟨rfl,cZ⟩;have Re:=hide cZ;clear cZ)))
  (try simp only[Exit.inBlock,Exit.then])
  exact bodyPost_ret (results_none rfl _ _ _) rfl ⟨rfl,HX.out _ Re.out⟩
 |some i=>
  obtain⟨a,ha,CJ,Iq,eac,_⟩:=St.nN hm;have pE:=cJ ha;obtain⟨q,hq,wE,GD⟩:=St.cu (hs.inv.bF a pE);rw[CJ]at hq GD;have BU:key a=(m.id,m.bF):=by unfold key;rw[CJ,Iq]
  have es:zR s c m=((s.say q.conn ([118,97,108,32]++bZ m.id++ [32]++m.txt)).aZ i).shut m.id:=by unfold zR;rw[hm];dsimp only;rw[hq]
  rw[es];rw[hm]at Az;change Calls prog 186 _ w1 fun e w'=>e= .returned (.pointer (some ⟨g.ap (m.id,m.bF),0,none⟩))∧Below w1.heap.size w1 w' at Az;have jJ:=hs.say q.conn ([118,97,108,32]++bZ m.id++ [32]++m.txt);have LV:=hs.stop q.conn ([118,97,108,32]++bZ m.id++ [32]++m.txt) ha;have HC:Hid (∀w2,Below w1.heap.size w1 w2->w2.cell? ⟨g.ap (m.id,m.bF),1,none⟩=some (pt (g.rp m.id))∧(w2.cell? ⟨g.rp m.id,0,none⟩=some (.int .i64 m.id)∧w2.cell? ⟨g.rp m.id,1,none⟩=some (.int .i64 q.conn)∧w2.cell? ⟨bx,4,none⟩=some (.string ⟨m.txt.toArray⟩))∧
    Hid (∀nq,Calls prog 89 #[pt tb, .int .i64 q.conn, .slice (some ⟨w2.heap.size,0,none⟩) 3 3] ((w2.alloc (.cells #[.iface 9 (.string ⟨#[118,97,108]⟩), .iface 3 (.int .i64 m.id), .iface 9 (.string ⟨m.txt.toArray⟩)] 20)).drewN nq) fun e w5=>e= .returned (.tuple #[])∧
     (w5.cell? ⟨g.rp m.id,0,none⟩=some (.int .i64 m.id)∧w5.cell? ⟨g.rp m.id,1,none⟩=some (.int .i64 q.conn)∧w5.cell? ⟨bx,4,none⟩=some (.string ⟨m.txt.toArray⟩))∧
     Hid (Calls prog 80 #[pt x,pt tb,pt (g.ap (m.id,m.bF))] w5 fun e w6=>e= .returned (.tuple #[])∧
      Hid (Calls prog 81 #[pt x,pt tb,pt (g.rp m.id)] w6 fun e w7=>e= .returned (.tuple #[])∧Goes (stA base x tb g cn (((s.say q.conn ([118,97,108,32]++bZ m.id++ [32]++m.txt)).aZ i).shut m.id)) w F w7)))):=fun w2 pD=>by
   have T2:=T1.new pD;have h2:(stA base x tb g cn s).holds w2 F:=Mr.aI h1 pD;obtain⟨p0,p1,p2,p3⟩:=jD h2 hs.inv (by omega) pE;obtain⟨_,_,_,_,RA⟩:=fL h2 hs.inv (by omega) hq;rw[BU,CJ]at p1;refine⟨p1,⟨RA.ci,RA.conn,by rw[pD.cell (p:=⟨bx,4,none⟩) lC];exact b4⟩,fun nq=> ?_⟩;have Wc:=kA T2 h2 (by omega) q.conn [.s [118,97,108], .n m.id, .s m.txt] ([118,97,108,32]++bZ m.id++ [32]++m.txt) (QJ _ _) (by simp) (by simp) (by
    intro p hp;simp only[List.mem_cons,List.not_mem_nil,or_false]at hp;rcases hp with rfl|rfl|rfl
    ·exact Part.tO (by decide)
    ·exact Part.Bz (wF hid)
    ·exact Part.tO htx) nq
   refine Wc.mono ?_;rintro e w5⟨rfl,g5⟩;have T5:=T2.goes (cB h) g5;obtain⟨F5,J2,o5,n5⟩:=g5;obtain⟨_,_,_,_,RA5⟩:=fL J2 jJ.inv (by have:=jJ.sz;omega) (id:=m.id) (q:=q) hq;refine⟨rfl,⟨RA5.ci,RA5.conn, ?_⟩, ?_⟩
   ·have dc:=pD.size;rw[o5.cell (p:=⟨bx,4,none⟩) (by show bx<w2.heap.size;omega) NN,pD.cell (p:=⟨bx,4,none⟩) lC];exact b4
   show Calls _ _ _ _ _;rw[<-BU];refine(ry T5 J2 jJ.inv jJ.ok (by have:=jJ.sz;omega) (i:=i) (a:=a) ha).mono ?_;rintro e w6⟨rfl,k,g6⟩;have YW:=aC o5 n5 g6.drop;have T6:=T2.goes (cB h) YW;refine⟨rfl, ?_⟩;obtain⟨F6,J3,o6,n6⟩:=YW;show Calls _ _ _ _ _;refine(sk T6 J3 LV (by omega) (id:=m.id) (q:=q) (by rw[mZ];exact hq) ?_).mono ?_
   ·have:=Busy.aZ (i:=i) (a:=a) ((Busy.any hb (fun y=>y=m.id)).say q.conn ([118,97,108,32]++bZ m.id++ [32]++m.txt)) ha;exact this.mono (fun y hy=>hy.elim (fun h=>h) (fun h=>h.trans CJ))
   ·rintro e w7⟨rfl,g7⟩;refine⟨rfl,oa.out _ _ (aC ((Only.refl F w1).below pD) (fun k hk=> .inl hk) (aC o6 n6 g7))⟩
  have HW:=hide i7;have L3:=hide uo;clear T h hs tB T1 h1 vU hb NN i7 uo jJ LV hm hq BU pE ha CJ Iq eac;unfold pt Mg.cs at*;generalize g.ap (m.id,m.bF)=ap at*;generalize g.rp m.id=rp at*;go_enter func141,ntmps141;go_wp2_with fail;rw[<-L3.out,<-HW.out];go_wp2_with (first
   |(go_at_call 186;go_must(refine Az.mono ?_;rintro e w2⟨rfl,cZ⟩;obtain⟨y1,⟨y2,y3,y4⟩,j8⟩:=HC.out w2 cZ;clear cZ HC Az)))
  have ny2:=World.new_ne w2 _ y2;have ny3:=World.new_ne w2 _ y3;have ny4:=World.new_ne w2 _ y4;go_region_held3 (fun w'=>w'.cell? ⟨rp,0,none⟩=some (.int .i64 m.id)∧w'.cell? ⟨rp,1,none⟩=some (.int .i64 q.conn)∧w'.cell? ⟨bx,4,none⟩=some (.string ⟨m.txt.toArray⟩)) (go_keep) (first
   |(go_at_call 89;go_must(refine(j8.out _).mono ?_;rintro e w5⟨rfl,⟨z0,z1,z2⟩,pK⟩)))
  all_goals
   go_wp2_with (first
    |(go_at_call 80;go_must(refine pK.out.mono ?_;rintro e w6⟨rfl,JA⟩;clear pK))
    |(go_at_call 81;go_must(refine JA.out.mono ?_;rintro e w7⟨rfl,Kk⟩;have X5:=hide Kk;clear Kk JA)))
   go_end0;exact⟨rfl,X5.out⟩
theorem Nf(T:Tabs base w)(h:(stA base x tb g cn s).holds w F)(hs:Sd n s)(hn:n<=16775000)(hb:Busy s (fun _=>False))(c:Int)(m:Mg)(hid:0<=m.id∧m.id<=999999):Calls prog 142 #[pt x,pt tb, .int .i64 c, .agg m.cs] w fun e w'=>e= .returned (.tuple #[])∧Goes (stA base x tb g cn (zT s c m)) w F w':=by
 obtain⟨w1,i7⟩: ∃w1,w1=w.alloc (.cells m.cs 149):=⟨_,rfl⟩;obtain⟨bx,uo⟩: ∃bx,bx=w.heap.size:=⟨_,rfl⟩;have tB:Below w.heap.size w w1:=by rw[i7];exact(au _ _).alloc (af _) _
 have T1:=T.new tB;have h1:(stA base x tb g cn s).holds w1 F:=Mr.aI h tB;have vU: ∀k,w1.cell? ⟨bx,k,none⟩=m.cs[k]?:=fun k=>by rw[i7,uo];simp only[World.cell?,heap_alloc_new];rfl
 have oa:Hid (∀(s2:St) w',Goes (stA base x tb g cn s2) w1 F w'->Goes (stA base x tb g cn s2) w F w'):=fun s2 w' hg=>by rw[i7]at hg;exact dx hg
 have hz:=hs.sz;have Az:=ug h1 hs.inv hs.ok (by omega) c m.id m.bF (I6.of (by omega) (by omega));have b1:w1.cell? ⟨bx,1,none⟩=some (.int .i64 m.id):=vU 1;have b2:w1.cell? ⟨bx,2,none⟩=some (.int .i64 m.bF):=vU 2;cases hm:s.mine c m.id m.bF with
 |none=>
  have es:zT s c m=s:=by unfold zT;rw[hm]
  rw[es];have HX:Hid (∀w',Below w1.heap.size w1 w'->Goes (stA base x tb g cn s) w F w'):=fun w' iI=>oa.out _ _ ((Goes.refl h1).below iI);rw[hm]at Az;change Calls prog 186 _ w1 fun e w'=>e= .returned (.pointer none)∧Below w1.heap.size w1 w' at Az;have HW:=hide i7;have L3:=hide uo;clear T h hs tB T1 h1 vU hb i7 uo;unfold pt Mg.cs at*;go_enter func142,ntmps142;go_wp2_with fail;rw[<-L3.out,<-HW.out];go_wp2_with (first
   |(go_at_call 186;go_must(refine Az.mono ?_;rintro e w2⟨rfl,cZ⟩;have Re:=hide cZ;clear cZ)))
  (try simp only[Exit.inBlock,Exit.then])
  exact bodyPost_ret (results_none rfl _ _ _) rfl ⟨rfl,HX.out _ Re.out⟩
 |some i=>
  obtain⟨a,ha,CJ,Iq,eac,_⟩:=St.nN hm;have pE:=cJ ha;obtain⟨q,hq,wE,GD⟩:=St.cu (hs.inv.bF a pE);rw[CJ]at hq GD;have BU:key a=(m.id,m.bF):=by unfold key;rw[CJ,Iq]
  have es:zT s c m=(s.aZ i).again m.id true:=by unfold zT;rw[hm]
  rw[es];rw[hm]at Az;change Calls prog 186 _ w1 fun e w'=>e= .returned (.pointer (some ⟨g.ap (m.id,m.bF),0,none⟩))∧Below w1.heap.size w1 w' at Az;have LV:=hs.Ir i;have HC:Hid (∀w2,Below w1.heap.size w1 w2->Calls prog 80 #[pt x,pt tb,pt (g.ap (m.id,m.bF))] w2 fun e w6=>e= .returned (.tuple #[])∧w6.cell? ⟨g.ap (m.id,m.bF),1,none⟩=some (pt (g.rp m.id))∧
      Hid (Calls prog 67 #[pt x,pt tb,pt (g.rp m.id)] w6 fun e w7=>e= .returned (.tuple #[])∧Goes (stA base x tb g cn ((s.aZ i).again m.id true)) w F w7)):=fun w2 pD=>by
   have T2:=T1.new pD;have h2:(stA base x tb g cn s).holds w2 F:=Mr.aI h1 pD;rw[<-BU];refine(ry T2 h2 hs.inv hs.ok (by omega) (i:=i) (a:=a) ha).mono ?_;rintro e w6⟨rfl,k,g6⟩;have g6c:=g6;obtain⟨F6',aay,_⟩:=g6c;have mN:=(cK (aA aay (bq _ _))).1;have YW:=g6.drop;have T6:=T2.goes (cB h) YW;refine⟨rfl,by simp only[World.cell?,mN];show some (pt (g.rp a.id))=_;rw[CJ], ?_⟩;obtain⟨F6,J3,o6,n6⟩:=YW;show Calls _ _ _ _ _;refine(zJ T6 J3 LV (by omega) (id:=m.id) (q:=q) (by rw[mZ];exact hq) ?_).mono ?_
   ·have:=Busy.aZ (i:=i) (a:=a) (Busy.any hb (fun y=>y=m.id)) ha;exact this.mono (fun y hy=>hy.elim (fun h=>h) (fun h=>h.trans CJ))
   ·rintro e w7⟨rfl,g7⟩;refine⟨rfl,oa.out _ _ (aC ((Only.refl F w1).below pD) (fun k hk=> .inl hk) (aC o6 n6 g7))⟩
  have HW:=hide i7;have L3:=hide uo;clear T h hs tB T1 h1 vU hb i7 uo LV hm hq BU pE ha CJ Iq eac;unfold pt Mg.cs at*;generalize g.ap (m.id,m.bF)=ap at*;generalize g.rp m.id=rp at*;go_enter func142,ntmps142;go_wp2_with fail;rw[<-L3.out,<-HW.out];go_wp2_with (first
   |(go_at_call 186;go_must(refine Az.mono ?_;rintro e w2⟨rfl,cZ⟩;have pK:=hide (HC.out w2 cZ);clear cZ HC Az))
   |(go_at_call 80;go_must(refine pK.out.mono ?_;rintro e w6⟨rfl,y1,JA⟩;clear pK))
   |(go_at_call 67;go_must(refine JA.out.mono ?_;rintro e w7⟨rfl,Kk⟩;have X5:=hide Kk;clear Kk JA)))
  go_end0;exact⟨rfl,X5.out⟩
theorem Ld(id:Int):said [.s [110,111,110,101], .n id]= [110,111,110,101,32]++bZ id:=by simp[said,Lib.join,Part.txt]
theorem Lc(id:Int):said [.s [103,111,110,101], .n id]= [103,111,110,101,32]++bZ id:=by simp[said,Lib.join,Part.txt]
def Cr(s:St)(c id:Int):St:=
 match s.req id with
 |none=>s.say c ([110,111,110,101,32]++bZ id)
 |some r=>if r.conn==c then(s.say c ([103,111,110,101,32]++bZ id)).shut id else s.say c ([110,111,110,101,32]++bZ id)
theorem FP{base x tb:Nat}{g:Gh}{cn:List (Int×Nat×Bs)}{s:St}{w:World}{F:Ft}{n:Nat}(T:Tabs base w)(h:(stA base x tb g cn s).holds w F)(hs:Sd n s)(hn:n<=16775000)(hb:Busy s (fun _=>False))(c id:Int)(hid:0<=id∧id<=999999):Calls prog 138 #[pt x,pt tb, .int .i64 c, .int .i64 id] w fun e w'=>e= .returned (.tuple #[])∧Goes (stA base x tb g cn (Cr s c id)) w F w':=by
 have hz:=hs.sz;obtain⟨rm,c7,Kw,AA⟩:=yn h hs.inv id (I6.of (by omega) (by omega));have nH:=AA w (au _ _);have NQ: ∀b:Bs,b.length<=64-> ∀p∈ [Part.s b,Part.n id],p.ok:=fun b hl p hp=>by
  simp only[List.mem_cons,List.not_mem_nil,or_false]at hp;rcases hp with rfl|rfl
  ·exact Part.tO hl
  ·exact Part.Bz (wF hid)
 have sV:=hide (kA T h (by omega) c [.s [110,111,110,101], .n id] ([110,111,110,101,32]++bZ id) (Ld _) (by simp) (by simp) (NQ _ (by decide)) 0);cases hq:s.req id with
 |none=>
  have es:Cr s c id=s.say c ([110,111,110,101,32]++bZ id):=by unfold Cr;rw[hq]
  rw[es];rw[hq]at nH;clear T h hs AA hb NQ;unfold pt at*;go_enter func138,ntmps138;go_wp2_with (first
   |(go_at_call 89;go_must(refine sV.out.mono ?_;rintro e w5⟨rfl,kq⟩;have RB:=hide kq;clear kq)))
  (try simp only[Exit.inBlock,Exit.then])
  exact bodyPost_ret (results_none rfl _ _ _) rfl ⟨rfl,RB.out⟩
 |some q=>
  rw[hq]at nH;obtain⟨_,_,_,_,RA⟩:=fL h hs.inv (by omega) hq;have c1:=RA.conn;cases hc:(q.conn==c)with
  |false=>
   have es:Cr s c id=s.say c ([110,111,110,101,32]++bZ id):=by unfold Cr;rw[hq];dsimp only;rw[hc];rfl
   rw[es];clear T h hs AA hb NQ RA;unfold pt at*;generalize g.rp id=rp at*;go_enter func138,ntmps138;go_wp2_with (first
    |(go_at_call 89;go_must(refine sV.out.mono ?_;rintro e w5⟨rfl,kq⟩;have RB:=hide kq;clear kq)))
   (try simp only[Exit.inBlock,Exit.then])
   exact bodyPost_ret (results_none rfl _ _ _) rfl ⟨rfl,RB.out⟩
  |true=>
   have es:Cr s c id=(s.say c ([103,111,110,101,32]++bZ id)).shut id:=by unfold Cr;rw[hq];dsimp only;rw[hc];rfl
   rw[es];have BN:=hide (kA T h (by omega) c [.s [103,111,110,101], .n id] ([103,111,110,101,32]++bZ id) (Lc _) (by simp) (by simp) (NQ _ (by decide)) 0);have jJ:=hs.say c ([103,111,110,101,32]++bZ id);have JA:Hid (∀w5,Goes (stA base x tb g cn (s.say c ([103,111,110,101,32]++bZ id))) w F w5->Calls prog 81 #[pt x,pt tb,pt (g.rp id)] w5 fun e w7=>e= .returned (.tuple #[])∧Goes (stA base x tb g cn ((s.say c ([103,111,110,101,32]++bZ id)).shut id)) w F w7):=fun w5 g5=>by have T5:=T.goes (cB h) g5;obtain⟨F5,J2,o5,n5⟩:=g5;refine(sk T5 J2 jJ (by omega) (id:=id) (q:=q) hq ((Busy.any hb _).say _ _)).mono ?_;rintro e w7⟨rfl,g7⟩;exact⟨rfl,aC o5 n5 g7⟩
   clear T h hs AA hb NQ RA sV;unfold pt at*;generalize g.rp id=rp at*;go_enter func138,ntmps138;go_wp2_with (first
    |(go_at_call 89;go_must(refine BN.out.mono ?_;rintro e w5⟨rfl,kq⟩;have HS5:=hide (JA.out _ kq);clear kq))
    |(go_at_call 81;go_must(refine HS5.out.mono ?_;rintro e w7⟨rfl,Kk⟩;have X5:=hide Kk;clear Kk)))
   go_end0;exact⟨rfl,X5.out⟩
