import Derived.Test.YtffamlbkmjmipaaGreatDoorC22
set_option maxHeartbeats 8000000
set_option maxRecDepth 100000
namespace Go.Proofs.YtffamlbkmjmipaaGreatDoor
open _root_.Go.Proofs.Tryz
namespace Pj
open Go.RowKit aD Mc
attribute [local go_sem] ae ah
theorem K7(id n:Int)(ten txt:Bs):said [.s [114,117,110], .n id, .n n, .s ten, .s txt]= [114,117,110,32]++a7 id++ [32]++a7 n++ [32]++ten++ [32]++txt:=by simp[said,Lib.join,Part.txt]
def Js.begin(j:Js)(r:Rr)(t:Tr)(a:At)(hp:List At):Js:=
 ({j with begun:=j.begun+1,hp:=hp}:Js).at2 r.q.id t.nm {r.q with n:=r.q.n+1} (r.al++ [a.n]) {t with rn:=t.rn+1}
section
variable{x:Nat}{g:Gh}{j:Js}{v:Dv}{r:Rr}{t:Tr}{q:Rq}{al:List Int}{av wv:Value}{B Q P:aD}{w w':World}{F:Ft}
theorem UU(h:(jW x g j v q al t av wv (aa Q P)).holds w F): ∃G,(aa (dY x (uI j v) g v.lv j.hp) P).holds w G∧ ∀aX jw w2,Goes (dY x ((uI j v).setIfInBounds 11 jw) g jw aX) w G w2->Goes (jW x g {j with hp:=aX} {v with lv:=jw} q al t av wv Q) w F w2:=by
 have h2:=aw h (show _=aa (aa (dY x (uI j v) g v.lv j.hp) P) (aa (dF g v.rv j.ring) (aa (ji g j.c.re q av) (aa (iM g av q.id al) (aa (jF g t wv) (aa (je g wv t.wt) Q)))))by unfold jW dY vu dB;ac_rfl);obtain⟨G,H,ha,hb,d,e⟩:=h2;refine⟨G,ha,fun aX jw w2 hg=> ?_⟩;refine(aH hb hg d e).eq ?_;have:dY x ((uI j v).setIfInBounds 11 jw) g jw aX=aa (dB x {j with hp:=aX} {v with lv:=jw}) (aa (dm g jw aX) (hpA g aX)):=rfl;rw[this];unfold jW;dsimp only
 ac_rfl
end
structure Yx(base x tb:Nat)(g:Gh)(cn:List (Int×Nat×Bs))(j:Js)(r:Rr)(t:Tr)(c:Int)(a:At)(N:Nat)(s':St):Prop where
 wf:Wf j
 hr:r∈j.reqs
 ht:t∈j.aI
 et:t.nm=r.q.ten
 ea:a=⟨r.q.id,r.q.n+1,c,j.now,j.now+j.c.le⟩
 f1: ∀b∈j.hp,key b≠key a
 f2: ∀y∈j.reqs,∀n∈y.al,(y.q.id,n)≠key a
 heap:Hp.Heap (eT g) j.hp j.hp.length
 cw:Cw j
 hc:I6 c
 hcn:gu j=cn
 rel: ∀aX,aX.Perm (a::j.hp)->Hp.Heap (eT (g.new (key a) N ((j.begun:Int)+1))) aX aX.length->Rel (g.new (key a) N ((j.begun:Int)+1)) (j.begin r t a aX) s'
 inv:Inv s'
 sz:s'.sz<=16776000
 req:s'.req r.q.id=some {r.q with n:=r.q.n+1}
 bB:a∈s'.ag
 ok:r.q.ok 4398046511104 1
 now:0<=j.now∧j.now<=4398046511104
 le:0<=j.c.le∧j.c.le<=20
 Y7:j.begun<=16777216
theorem fB{base x tb:Nat}{g:Gh}{cn:List (Int×Nat×Bs)}{j:Js}{r:Rr}{t:Tr}{c:Int}{a:At}{s':St}{w:World}{F:Ft}(T:Tabs base w)(hF: ∀k,F k->base<=k)(h:(aa (jA x g j) (rC tb s'.out)).holds w F)(b:Yx base x tb g cn j r t c a w.heap.size s'):Calls prog 76 #[pt x,pt tb, .int .i64 c,pt (g.rp r.q.id)] w fun e w'=>e= .returned (.tuple #[])∧Goes (stA base x tb (g.new (key a) w.heap.size ((j.begun:Int)+1)) cn (s'.say c (St.runText r.q (r.q.n+1)))) w F w':=by
 obtain⟨i0,kg,nV,j0,kC⟩:=fo CC;obtain⟨N,hN⟩: ∃N,N=w.heap.size:=⟨_,rfl⟩;obtain⟨g',iG⟩: ∃g',g'=g.new (key a) N ((j.begun:Int)+1):=⟨_,rfl⟩;rw[<-hN]at b⊢;rw[<-iG];rw[<-QN x g j (key a) N ((j.begun:Int)+1) b.f1 b.f2,<-iG]at h;have hrp:g.rp r.q.id=g'.rp r.q.id:=by rw[iG];rfl
 rw[hrp];have Fe:g'.ap (key a)=N:=by rw[iG];exact Gh.QZ _ _ _ _
 have hsr:g'.sr (key a)=(j.begun:Int)+1:=by rw[iG];exact Gh.KC _ _ _ _
 have qY:Hp.Heap (eT g') j.hp j.hp.length:=by rw[iG];exact Jx b.f1 b.heap
 have hrel:=b.rel;rw[<-iG]at hrel;have wf:=b.wf;have hr:=b.hr;have ht:=b.ht;have et:=b.et;have MP:key a=(r.q.id,r.q.n+1):=by rw[b.ea];rfl
 have DK:a.n=r.q.n+1:=by rw[b.ea]
 obtain⟨v,av,wv,Fs,hw⟩:=kK h wf hr ht;have S7: ∀(s2:St) w7,Inv s2->s2.sz<=16777000->s2.req r.q.id=some {r.q with n:=r.q.n+1}->a∈s2.ag->Goes (stA base x tb g' cn s2) w F w7->w7.cell? ⟨g'.rp r.q.id,0,none⟩=some (.int .i64 r.q.id)∧w7.cell? ⟨N,0,none⟩=some (.int .i64 (r.q.n+1))∧w7.cell? ⟨g'.rp r.q.id,2,none⟩=some (pt (g'.tp t.nm))∧w7.cell? ⟨g'.tp t.nm,0,none⟩=some (bs r.q.ten)∧w7.cell? ⟨g'.rp r.q.id,3,none⟩=some (bs r.q.txt):=fun s2 w7 Vm kC tJ Vg hg=>by obtain⟨F7,RJ,_⟩:=hg;obtain⟨_,_,_,_,RA⟩:=eZ RJ Vm kC tJ;obtain⟨p0,p1,p2,p3⟩:=jc RJ Vm kC Vg;rw[Fe,DK]at p0;exact⟨RA.ci,p0,by rw[et];exact RA.ten,by rw[et];exact RA.nm,RA.txt⟩
 have S7':Hid (∀w7,Goes (stA base x tb g' cn s') w F w7->(w7.cell? ⟨g'.rp r.q.id,0,none⟩=some (.int .i64 r.q.id)∧w7.cell? ⟨N,0,none⟩=some (.int .i64 (r.q.n+1))∧w7.cell? ⟨g'.rp r.q.id,2,none⟩=some (pt (g'.tp t.nm))∧w7.cell? ⟨g'.tp t.nm,0,none⟩=some (bs r.q.ten)∧w7.cell? ⟨g'.rp r.q.id,3,none⟩=some (bs r.q.txt))∧
   Hid (∀nq,Calls prog 89 #[pt tb, .int .i64 c, .slice (some ⟨w7.heap.size,0,none⟩) 5 5] ((w7.alloc (.cells #[.iface 9 (.string ⟨#[114,117,110]⟩), .iface 3 (.int .i64 r.q.id), .iface 3 (.int .i64 (r.q.n+1)), .iface 9 (bs r.q.ten), .iface 9 (bs r.q.txt)] 20)).drewN nq) fun e w'=>e= .returned (.tuple #[])∧
    (w'.cell? ⟨g'.rp r.q.id,0,none⟩=some (.int .i64 r.q.id)∧w'.cell? ⟨N,0,none⟩=some (.int .i64 (r.q.n+1))∧w'.cell? ⟨g'.rp r.q.id,2,none⟩=some (pt (g'.tp t.nm))∧w'.cell? ⟨g'.tp t.nm,0,none⟩=some (bs r.q.ten)∧w'.cell? ⟨g'.rp r.q.id,3,none⟩=some (bs r.q.txt))∧
    Goes (stA base x tb g' cn (s'.say c (St.runText r.q (r.q.n+1)))) w F w')):=fun w7 hg=>by
  refine⟨S7 s' w7 b.inv (by have:=b.sz;omega) b.req b.bB hg,fun nq=> ?_⟩;have T7:=T.goes hF hg;obtain⟨F7,RJ,o7,n7⟩:=hg;have yD:=b.ok;have nz:=jD T7 RJ (by have:=b.sz;omega) c [.s [114,117,110], .n r.q.id, .n (r.q.n+1), .s r.q.ten, .s r.q.txt] (St.runText r.q (r.q.n+1)) (by rw[K7];rfl) (by simp) (by simp) (by
   intro p hp;simp only[List.mem_cons,List.not_mem_nil,or_false]at hp;rcases hp with rfl|rfl|rfl|rfl|rfl
   ·exact Part.qD (by decide)
   ·exact Part.xV (tL yD.id)
   ·exact Part.xV (by have:=yD.n;omega)
   ·exact Part.qD yD.ten
   ·exact Part.qD yD.txt) nq
  refine nz.mono ?_;rintro e w'⟨rfl,iG⟩;have eO:=ay o7 n7 iG;exact⟨rfl,S7 _ w' (St.bM b.inv _ _) (by rw[St.eA];have:=b.sz;omega) b.req b.bB eO,eO⟩
 have S6: ∀DA w6,Goes (jW x g' {j with begun:=j.begun+1} v {r.q with n:=r.q.n+1} (r.al++ [a.n]) {t with rn:=t.rn+1} DA wv (aa (aa (jQ g' j v r t) (rC tb s'.out)) (eN g' a 0))) w F w6->
   Calls prog 121 #[sf x, .iface 127 (pt N)] w6 fun e w'=>e= .returned (.tuple #[])∧Goes (stA base x tb g' cn s') w F w':=fun DA w6 hg=>by
  obtain⟨F6,Fa,o6,n6⟩:=hg;obtain⟨G6,Qh,HL⟩:=UU Fa;have JP:=Fz x _ g' v.lv j.hp a 0 w6 G6 (by rfl) Qh qY (by have:=wf.b4;omega);rw[Fe]at JP;refine JP.mono ?_;rintro e w'⟨rfl,aX,jw,dA,Qt,gM⟩;refine⟨rfl, ?_⟩;have g7:=ay o6 n6 (HL aX jw w' gM);have g8:=w_shut (v:=v) (q:={r.q with n:=r.q.n+1}) (t':={t with rn:=t.rn+1}) {j with begun:=j.begun+1,hp:=aX} {v with lv:=jw} wf hr ht rfl rfl rfl rfl rfl rfl rfl rfl rfl rfl rfl g7;exact fJ T hF (hrel aX dA Qt) ⟨fun y hy=>by
   rcases List.mem_cons.1 (dA.subset hy)with e|e
   ·rw[e,b.ea];exact b.hc
   ·exact b.cw.1 y e,b.cw.2⟩ b.hcn g8
 have S5: ∀DA w5,Goes (jW x g' {j with begun:=j.begun+1} v {r.q with n:=r.q.n+1} (r.al++ [a.n]) t DA wv (aa (aa (jQ g' j v r t) (rC tb s'.out)) (eN g' a 0))) w F w5->
   w5.cell? ⟨g'.rp r.q.id,2,none⟩=some (pt (g'.tp t.nm))∧w5.cell? ⟨g'.tp t.nm,2,none⟩=some (.int .i64 t.rn)∧w5.frozen? ⟨g'.tp t.nm,2,none⟩=false∧
   Hid (Calls prog 121 #[sf x, .iface 127 (pt N)] (w5.setCell ⟨g'.tp t.nm,2,none⟩ (.int .i64 (t.rn+1))) fun e w'=>e= .returned (.tuple #[])∧Goes (stA base x tb g' cn s') w F w'):=fun DA w5 hg=>by
  obtain⟨F5,E9,_⟩:=id hg;refine⟨by rw[et];exact(L4 E9).1 2,(R6 E9).1 2,(R6 E9).2.1 2,S6 DA _ (LI hg (t.rn+1))⟩
 have S3:Hid (∀w3,Goes (jW x g' {j with begun:=j.begun+1} v {r.q with n:=r.q.n+1} r.al t av wv (aa (aa (jQ g' j v r t) (rC tb s'.out)) (eN g' a 0))) w F w3->
   ∃ao cap G0,av= .slice ao r.al.length cap∧w3.cell? ⟨g'.rp r.q.id,7,none⟩=some (.slice ao r.al.length cap)∧Hid ((rowA 127 1 (.slice ao r.al.length cap) r.al.length (r.al.map fun n=>pt (g'.ap (r.q.id,n)))).holds (w3.alloc (.cells #[pt N] 127)) G0)∧
   Hid (∀gY cP w4,Goes (rowA 127 1 (.slice gY (r.al.length+1) cP) (r.al.length+1) ((r.al.map fun n=>pt (g'.ap (r.q.id,n)))++ [pt N])) (w3.alloc (.cells #[pt N] 127)) G0 w4->
    w4.cell? ⟨g'.rp r.q.id,7,none⟩=some (.slice ao r.al.length cap)∧w4.frozen? ⟨g'.rp r.q.id,7,none⟩=false∧
    (w4.setCell ⟨g'.rp r.q.id,7,none⟩ (.slice gY (r.al.length+1) cP)).cell? ⟨g'.rp r.q.id,2,none⟩=some (pt (g'.tp t.nm))∧(w4.setCell ⟨g'.rp r.q.id,7,none⟩ (.slice gY (r.al.length+1) cP)).cell? ⟨g'.tp t.nm,2,none⟩=some (.int .i64 t.rn)∧(w4.setCell ⟨g'.rp r.q.id,7,none⟩ (.slice gY (r.al.length+1) cP)).frozen? ⟨g'.tp t.nm,2,none⟩=false∧
    Hid (Calls prog 121 #[sf x, .iface 127 (pt N)] ((w4.setCell ⟨g'.rp r.q.id,7,none⟩ (.slice gY (r.al.length+1) cP)).setCell ⟨g'.tp t.nm,2,none⟩ (.int .i64 (t.rn+1))) fun e w'=>e= .returned (.tuple #[])∧Goes (stA base x tb g' cn s') w F w'))):=fun w3 hg=>by
  obtain⟨F3,kT,o3,n3⟩:=hg;obtain⟨G0,kP,uG⟩:=LG kT;obtain⟨ao,cap,RD⟩:=aJ (Goes.refl kP);have WI:(rowA 127 1 (.slice ao r.al.length cap) r.al.length (r.al.map fun n=>pt (g'.ap (r.q.id,n)))).holds w3 G0:=by rw[<-RD];exact kP
  refine⟨ao,cap,G0,RD,by rw[(L4 kT).1 7];show some av=_;rw[RD],dG WI _,fun gY cP w4 gL=> ?_⟩;have fO:=dy gL;have e5:iM g' (.slice gY (r.al.length+1) cP) r.q.id (r.al++ [a.n])=rowA 127 1 (.slice gY (r.al.length+1) cP) (r.al.length+1) ((r.al.map fun n=>pt (g'.ap (r.q.id,n)))++ [pt N]):=by
   unfold iM;rw[aC,aB];have:g'.ap (r.q.id,a.n)=N:=by rw[<-Fe,MP,DK]
   simp[this]
  obtain⟨d1,d2,d3⟩:=uG (r.al++ [a.n]) (.slice gY (r.al.length+1) cP) w4 (by rw[e5];exact fO);obtain⟨d4,d5,d6,d7⟩:=S5 _ _ (ay o3 n3 d3);exact⟨by rw[d1,RD],d2,d4,d5,d6,d7⟩
 have Zg:((j.begun+1:Nat):Int)=(j.begun:Int)+1:=by omega
 have G1:=OQ (Goes.refl hw) (j.begun+1);rw[Zg]at G1;have G2:=LH G1 4 (.int .i64 (r.q.n+1)) {r.q with n:=r.q.n+1} rfl rfl;have JI:((w.setCell ⟨x,12,none⟩ (.int .i64 ((j.begun:Int)+1))).setCell ⟨g'.rp r.q.id,4,none⟩ (.int .i64 (r.q.n+1))).heap.size=N:=by rw[hN];simp[World.setCell]
 have S2:Hid (∀nq,Goes (jW x g' {j with begun:=j.begun+1} v {r.q with n:=r.q.n+1} r.al t av wv (aa (aa (jQ g' j v r t) (rC tb s'.out)) (eN g' a 0))) w F ((((w.setCell ⟨x,12,none⟩ (.int .i64 ((j.begun:Int)+1))).setCell ⟨g'.rp r.q.id,4,none⟩ (.int .i64 (r.q.n+1))).alloc (.cells #[.int .i64 (r.q.n+1),pt (g'.rp r.q.id), .int .i64 c, .int .i64 ((j.begun:Int)+1), .int .i64 j.now, .int .i64 (j.now+j.c.le), .int .i64 0] 126)).drewN nq)):=fun nq=>by
  refine((G2.alloc (.cells #[.int .i64 (r.q.n+1),pt (g'.rp r.q.id), .int .i64 c, .int .i64 ((j.begun:Int)+1), .int .i64 j.now, .int .i64 (j.now+j.c.le), .int .i64 0] 126)).eq ?_).drewN nq;have e1:blk ((w.setCell ⟨x,12,none⟩ (.int .i64 ((j.begun:Int)+1))).setCell ⟨g'.rp r.q.id,4,none⟩ (.int .i64 (r.q.n+1))).heap.size (.cells #[.int .i64 (r.q.n+1),pt (g'.rp r.q.id), .int .i64 c, .int .i64 ((j.begun:Int)+1), .int .i64 j.now, .int .i64 (j.now+j.c.le), .int .i64 0] 126)=eN g' a 0:=by rw[JI];unfold eN kO;rw[Fe,hsr,b.ea];rfl
  rw[e1];unfold jW
  ac_rfl
 obtain⟨F2,gl,_⟩:=id G2;obtain⟨F1,bU,_⟩:=id G1;have c12:w.cell? ⟨x,12,none⟩=some (.int .i64 (j.begun:Int)):=(Rm hw).1 12;have z12:w.frozen? ⟨x,12,none⟩=false:=(Rm hw).2.1 12;have c4:=(L4 bU).1 4;have z4:=(L4 bU).2.1 4;change _=some (Value.int .i64 r.q.n)at c4;have d4:=(L4 gl).1 4;change _=some (Value.int .i64 (r.q.n+1))at d4;have d12:=(Rm gl).1 12;change _=some (Value.int .i64 ((j.begun+1:Nat):Int))at d12;rw[Zg]at d12;have d5:=(Rm gl).1 5;change _=some (Value.int .i64 j.now)at d5;have d0:=(Rm gl).1 0;change _=some (Value.int .i64 j.c.le)at d0;have bP:=b.Y7;have cL:=b.ok.n;have nU:=b.now;have kQ:=b.le;have pM:=wf.b5 t ht;have hb6:=wf.al r hr;clear h Fs hw G1 G2 bU gl S5 S6 S7 b qY hrel wf hr ht et MP DK hsr iG hrp Fe;unfold pt bs sf at*;generalize g'.rp r.q.id=rp at*;generalize g'.tp t.nm=tp at*;generalize j.now=now at*;generalize j.c.le=le at*;generalize t.rn=rn at*;have zV:IntKind.i64.wrap (now+le)=now+le:=by rw[IntKind.wrap_i64];omega
 go_enter func76,ntmps76;go_wp2_with fail;generalize((w.setCell {block:=x,off:=12} (Value.int IntKind.i64 (↑j.begun+1))).setCell {block:=rp,off:=4} (Value.int IntKind.i64 (r.q.n+1)))=w2 at*;have ne4:=World.new_ne w2 _ d4;have Yg:=World.new_ne w2 _ d12;have ne5:=World.new_ne w2 _ d5;have ne0:=World.new_ne w2 _ d0;go_region_held3 (fun w'=>w'.cell? ⟨rp,4,none⟩=some (.int .i64 (r.q.n+1))∧w'.cell? ⟨x,12,none⟩=some (.int .i64 ((j.begun:Int)+1))∧w'.cell? ⟨x,5,none⟩=some (.int .i64 now)∧w'.cell? ⟨x,0,none⟩=some (.int .i64 le)) (go_keep) (fail);rw[<-hN];have LP:=S2.out 1;change Goes _ w F (w2.alloc _).drew at LP;generalize(w2.alloc (.cells #[.int .i64 (r.q.n+1), .pointer (some ⟨rp,0,none⟩), .int .i64 c, .int .i64 ((j.begun:Int)+1), .int .i64 now, .int .i64 (now+le), .int .i64 0] 126)).drew=w3 at*;obtain⟨ao,cap,G0,rfl,q7,iL,L8⟩:=S3.out w3 LP;clear hN JI LP S2 S3 d4 d12 d5 d0 ne4 Yg ne5 ne0 c12 z12 c4 z4 zV;generalize r.al.length=nal at*;go_wp2_with (first
  |(at_builtin;go_must(refine bh _ rfl _ _ 85 rfl 127 i0 (.pointer none) 1 8 underlying85 kg nV j0 kC rfl (by decide) (F:=G0) _ nal _ rfl iL.out ⟨w3.heap.size,0,none⟩ 1 1 [.pointer (some ⟨N,0,none⟩)] rfl rfl (World.news_of_block (cs:= #[.pointer (some ⟨N,0,none⟩)]) (t:=127) (fr:=(0,0)) (heap_alloc_new w3 _)) (by simp[Value.oneCell']) (by unfold maxLen;omega) (by omega) ?_;intro gY cP w4 bz;obtain⟨e7,z7,e2,et2,zt2,Mh⟩:=L8.out gY cP w4 bz;clear bz iL L8))
  |(go_at_call 121;go_must(refine Mh.out.mono ?_;rintro e w7⟨rfl,ik⟩;obtain⟨⟨y0,y1,y2,y3,y4⟩,gj⟩:=S7'.out w7 ik;clear ik)))
 have ny0:=World.new_ne w7 _ y0;have ny1:=World.new_ne w7 _ y1;have ny2:=World.new_ne w7 _ y2;have ny3:=World.new_ne w7 _ y3;have ny4:=World.new_ne w7 _ y4;go_region_held3 (fun w'=>w'.cell? ⟨rp,0,none⟩=some (.int .i64 r.q.id)∧w'.cell? ⟨N,0,none⟩=some (.int .i64 (r.q.n+1))∧w'.cell? ⟨rp,2,none⟩=some (.pointer (some ⟨tp,0,none⟩))∧w'.cell? ⟨tp,0,none⟩=some (.string ⟨r.q.ten.toArray⟩)∧w'.cell? ⟨rp,3,none⟩=some (.string ⟨r.q.txt.toArray⟩)) (go_keep) (first
  |(go_at_call 89;go_must(refine(gj.out _).mono ?_;rintro e w8⟨rfl,⟨x0,x1,x2,x3,x4⟩,oI⟩;have Hf:=hide oI;clear oI)))
 all_goals go_end0;exact⟨rfl,Hf.out⟩
section
variable{x:Nat}{g:Gh}{j:Js}{B:aD}{w w':World}{F:Ft}
theorem xx(h:(aa (jA x g j) B).holds w F)(hl:j.pull.length<=16777210)(c:Int):Calls prog 73 #[pt x, .int .i64 c] w fun e w'=>e= .returned (.tuple #[])∧Goes (aa (jA x g {j with pull:=j.pull.erase c}) B) w F w':=by
 unfold jA at h;rw[bF]at h;obtain⟨v,h⟩:=h;have h2:=aw h (show _=aa (aa (dB x j v) (gm v.pv j.pull)) (aa (iu v.cm j.br) (aa (gJ g v.rm j.reqs) (aa (fW g v.tm j.aI) (aa (all gi j.br) (aa (all (dP g j.c.re) j.reqs) (aa (all (eC g) j.aI) (aa (dF g v.rv j.ring) (aa (dm g v.lv j.hp) (aa (hpA g j.hp) B)))))))))by unfold aS;ac_rfl);obtain⟨G,H,ha,hb,d,e⟩:=h2;refine(FC x (uI j v) c j.pull v.pv w G rfl ha (by omega)).mono ?_;rintro e' w'⟨rfl,CU,hg⟩;refine⟨rfl,(aH hb hg d e).mono fun F' h'=> ?_⟩;unfold jA;rw[bF];refine⟨{v with pv:=CU},aw h' ?_⟩;have:blk x (.cells ((uI j v).setIfInBounds 10 CU) 88 (0,0))=dB x {j with pull:=j.pull.erase c} {v with pv:=CU}:=rfl;rw[this];unfold aS;dsimp only
 ac_rfl
theorem s9{c:Int}{ws:List Int}:(c::ws).erase c=ws:=List.erase_cons_head ..
theorem Wf.turn(wf:Wf j){t:Tr}(ht:t∈j.aI)(hb:j.ring.length<=16777200):Wf (j.turn t):=by
 by_cases he:t.wt= []
 ·have:j.turn t=j:=by unfold Js.turn;rw[if_pos he]
  rw[this];exact wf
 ·have e:(j.turn t).ring=j.ring.erase t.nm++ [t.nm]:=by unfold Js.turn;rw[if_neg he]
  refine⟨wf.rid,wf.mn,wf.UX,fun n hn=> ?_,wf.dV,wf.b1, ?_,wf.b3,wf.b4,wf.b5,wf.b6,wf.b7,wf.b8,wf.al⟩
  ·rw[e]at hn;rcases List.mem_append.1 hn with h|h
   ·exact wf.ring n (List.mem_of_mem_erase h)
   ·rw[cC.1 h];exact ax.2 ⟨t,ht,rfl⟩
  ·rw[e,aC];have h2:(j.ring.erase t.nm).length<=j.ring.length:=List.length_erase_le ..;simp only[List.length_cons,List.length_nil];omega
theorem OP{α κ:Type} [DecidableEq κ]{k:α->κ}{c:κ}{f1 f2:α->α}{l:List α}(h: ∀y,k (f1 y)=k y):upd k c f2 (upd k c f1 l)=upd k c (fun y=>f2 (f1 y)) l:=by
 unfold upd;rw[az];refine bu fun y _=> ?_;simp only[Function.comp_def];by_cases e:k y=c
 ·rw[if_pos e,if_pos (by rw[h];exact e),if_pos e]
 ·rw[if_neg e,if_neg e,if_neg e]
theorem MX(wf:Wf j){r:Rr}{t:Tr}{a:At}(hr:r∈j.reqs)(ht:t∈j.aI)(ea:a.id=r.q.id){c:Int}{ws:List Int}(hp:j.pull=c::ws)(aX:List At):((({j with pull:=j.pull.erase c}:Js).left t r.q.id).turn {t with wt:=t.wt.erase r.q.id}).begin r {t with wt:=t.wt.erase r.q.id} a aX=j.gave t a aX:=by
 have e1:upd (fun t:Tr=>t.nm) t.nm (fun _=>{t with wt:=t.wt.erase r.q.id,rn:=t.rn+1}) (upd (fun t:Tr=>t.nm) t.nm (fun t=>{t with wt:=t.wt.erase r.q.id}) j.aI)=upd (fun t:Tr=>t.nm) t.nm (fun t=>{t with wt:=t.wt.erase r.q.id,rn:=t.rn+1}) j.aI:=by rw[OP (f1:=fun t:Tr=>{t with wt:=t.wt.erase r.q.id}) (fun _=>rfl),iJ (k:=fun t:Tr=>t.nm) wf.mn ht (fun t=>{t with wt:=t.wt.erase r.q.id,rn:=t.rn+1})]
 have e2:=iJ (k:=fun r:Rr=>r.q.id) wf.rid hr (fun r=>⟨{r.q with n:=r.q.n+1},r.al++ [a.n]⟩);unfold Js.begin Js.at2 Js.turn Js.left Js.gave;dsimp only;rw[e1,ea,e2,hp,s9];by_cases he:t.wt.erase r.q.id= []
 ·simp[he]
 ·simp[he]
end
end Pj
namespace Pj
open Go.RowKit aD Mc
theorem M6{base x tb:Nat}{g:Gh}{cn:List (Int×Nat×Bs)}{s:St}{w:World}{F:Ft}{n:Nat}(T:Tabs base w)(h:(stA base x tb g cn s).holds w F)(hs:Sd n s)(hn:n<=16775000){c:Int}{ws:List Int}{k:Nat}{l:Ln}{id:Int}{q:Rq}(hw:s.wait=c::ws)(hl:s.ring[k]?=some l)(hid:l.ids.head?=some id)(hq:s.req id=some q)(bx:Nat)(qW:bx<w.heap.size)(JJ: ¬F bx)(sS:w.cell? ⟨bx,0,none⟩=some (pt x)):Calls prog 73 #[pt x, .int .i64 c] w fun e w1=>e= .returned (.tuple #[])∧w1.cell? ⟨bx,0,none⟩=some (pt x)∧Hid (Calls prog 74 #[pt x,pt (g.rp id)] w1 fun e w2=>e= .returned (.tuple #[])∧w2.cell? ⟨bx,0,none⟩=some (pt x)∧Hid (Calls prog 75 #[pt x,pt (g.tp l.ten)] w2 fun e w3=>e= .returned (.tuple #[])∧w3.cell? ⟨bx,0,none⟩=some (pt x)∧Hid (Calls prog 76 #[pt x,pt tb, .int .i64 c,pt (g.rp id)] w3 fun e w4=>e= .returned (.tuple #[])∧ ∃g',Goes (stA base x tb g' cn (s.give c ws k)) w F w4))):=by
 obtain⟨j,r1,r2,r3,hF,hh⟩:=h;have hz:=hs.sz;have wf:=dD r1 hs.inv (by omega);obtain⟨r,hr,t,ht,er,ei,et,uY,yw⟩:=fV r1 hq;have Fw:=cK hl;have vo:s.ten id=l.ten:=St.uA hs.inv ((hs.inv.ring l Fw).2 id (List.mem_of_head? hid));have Zn:t.nm=l.ten:=by rw[<-uY,vo]
 subst er;subst ei;have Eb:j.pull=c::ws:=by rw[r1.pull,hw]
 have hcell: ∀{A:aD} {w'},Goes A w F w'->w'.cell? ⟨bx,0,none⟩=some (pt x):=fun hg=>by obtain⟨_,_,o,_⟩:=hg;rw[o.cell (p:=⟨bx,0,none⟩) qW JJ];exact sS
 have e1:({j with pull:=j.pull.erase c}:Js)={j with pull:=ws}:=by rw[Eb,s9]
 have R1:Rel g {j with pull:=ws} {s with wait:=ws}:=r1.pulls ws;have QK:=hs.inv.wt;rw[hw,List.nodup_cons]at QK;have I1:Inv {s with wait:=ws}:=⟨hs.inv.rid,hs.inv.bB,hs.inv.ring,hs.inv.dV,hs.inv.once,hs.inv.cn,QK.2⟩;have z1:({s with wait:=ws}:St).sz<=16777000:=by unfold St.sz at hz⊢;rw[hw]at hz;simp only[List.length_cons]at hz;dsimp only;omega
 have Yw:=dD R1 I1 z1;have R2:Rel g (({j with pull:=ws}:Js).left t r.q.id) (({s with wait:=ws}:St).left r.q.id):=R1.left I1 ht uY.symm;have I2:=St.oP I1 r.q.id;have z2:(({s with wait:=ws}:St).left r.q.id).sz<=16777000:=z1;have VG:=dD R2 I2 z2;have Uq:({t with wt:=t.wt.erase r.q.id}:Tr)∈(({j with pull:=ws}:Js).left t r.q.id).aI:=yn (f:=fun t:Tr=>{t with wt:=t.wt.erase r.q.id}) ht rfl;have jH:(({j with pull:=ws}:Js).left t r.q.id).ring.length<=16777200:=by
  rw[R2.ring,aR];have:=St.A0 I2;have h2:(({s with wait:=ws}:St).left r.q.id).reqs.length<=s.sz:=by show s.reqs.length<=s.sz;unfold St.sz;omega
  omega
 have wf3:=VG.turn Uq jH;refine(xx hh (by have:=wf.b3;omega) c).mono ?_;rintro e w1⟨rfl,g1⟩;rw[e1]at g1;refine⟨rfl,hcell g1, ?_⟩;obtain⟨F1,bU,o1,n1⟩:=g1;show Calls _ _ _ _ _;refine(gB bU fun G hG=>Au x g _ r t w1 G hG Yw hr ht et).mono ?_;rintro e w2⟨rfl,g2⟩;have Zt:=ay o1 n1 g2;refine⟨rfl,hcell Zt, ?_⟩;obtain⟨F2,gl,o2,n2⟩:=Zt;show Calls _ _ _ _ _;rw[<-Zn];refine(gB gl fun G hG=>Lu x g _ r {t with wt:=t.wt.erase r.q.id} w2 G hG VG hr Uq).mono ?_;rintro e w3⟨rfl,g3⟩;have RH:=ay o2 n2 g3;refine⟨rfl,hcell RH, ?_⟩;have T3:=T.goes hF RH;obtain⟨F3,kT,o3,n3⟩:=RH;show Calls _ _ _ _ _;obtain⟨a,ea⟩: ∃a:At,a=⟨r.q.id,r.q.n+1,c,s.now,s.now+s.c.le⟩:=⟨_,rfl⟩;have tK:r.q∈s.reqs:=cO hq;have kS:=hs.bd.rq r.q tK;have eka:key a=(r.q.id,r.q.n+1):=by rw[ea];rfl
 have fr: ∀b∈s.ag,key b≠key a:=fun b hb e=>by rw[eka]at e;have e1:b.id=r.q.id:=congrArg Prod.fst e;have e2:b.n=r.q.n+1:=congrArg Prod.snd e;have:=hs.ok.num b hb r.q tK e1.symm;omega
 have Xg:=St.r6 (c:=c) (ws:=ws) hl hid hq;have hinv:=St.jV hs.inv c ws (by rw[hw];exact List.sublist_cons_self ..) k;rw[Xg]at hinv;have cY:=St.xn hw k;rw[Xg,St.eA]at cY;have Ct:(s.giving c ws k l r.q.id r.q).req r.q.id=some {r.q with n:=r.q.n+1}:=by have:=St.iZ hs.inv r.q.id r.q.id (fun r=>{r with n:=r.n+1}) (fun _=>rfl);rw[hq]at this;simp only[Option.map_some,if_true]at this;exact this
 have B:Yx base x tb g cn ((({j with pull:=ws}:Js).left t r.q.id).turn {t with wt:=t.wt.erase r.q.id}) r {t with wt:=t.wt.erase r.q.id} c a w3.heap.size (s.giving c ws k l r.q.id r.q):=
  {wf:=wf3,hr:=hr,ht:=Uq,et:=et,ea:=by rw[ea];show _=(⟨r.q.id,r.q.n+1,c,j.now,j.now+j.c.le⟩:At);rw[r1.now,r1.c],f1:=fun b hb=>fr b (r1.hp.subset hb),f2:=fun y hy m hm e=>by
    have JU:y∈j.reqs:=hy;rw[r1.al y JU]at hm;obtain⟨b,hb,b1,b2⟩:=ly.1 hm;exact fr b hb (by rw[<-e];unfold key;rw[b1,b2])
   heap:=r1.heap
   cw:=⟨r2.1,fun d hd=>r2.2 d (by rw[Eb];exact aY _ hd)⟩
   hc:=r2.2 c (by rw[Eb];exact cB ..)
   hcn:=r3
   rel:=fun aX dA qY=>by have JE:=MX wf (a:=a) hr ht (by rw[ea]) Eb aX;rw[e1]at JE;rw[JE];exact r1.gave hs.inv hw hl hid hq ht Zn ea (fun y hy=>Gh.su (fr y hy)) (by rw[Gh.KC];show((j.begun:Int))+1=_;rw[r1.begun]) aX dA qY
   inv:=⟨hinv.rid,hinv.bB,hinv.ring,hinv.dV,hinv.once,hinv.cn,hinv.wt⟩
   sz:=by omega
   req:=Ct
   bB:=by show a∈s.ag++ [_];rw[ea];simp
   ok:=⟨kS.id,by have:=kS.n;rw[hw]at this;simp only[List.length_cons]at this;omega,kS.left,kS.ten,kS.txt⟩
   now:=by have:=hs.bd.now;show 0<=j.now∧j.now<=_;rw[r1.now];exact this
   le:=by have:=hs.bd.c.le;show 0<=j.c.le∧j.c.le<=20;rw[r1.c];omega
   Y7:=by show j.begun<=_;rw[r1.begun];unfold St.sz at hz;omega}
 have WG: ∀k,F3 k->base<=k:=fun k hk=>by
  rcases n3 k hk with e|e
  ·exact hF k e
  ·exact au T.1 e
 refine(fB (s':=s.giving c ws k l r.q.id r.q) T3 WG kT B).mono ?_;rintro e w4⟨rfl,g4⟩;have g5:=ay o3 n3 g4;rw[<-Xg]at g5;exact⟨rfl,_,g5⟩
end Pj
namespace Pj
open Go.RowKit aD Mc
attribute [local go_sem] ae ah
theorem Fc(p bx x:Nat)(rn ca:Int)(w:World)(hp:w.cell? ⟨p,2,none⟩=some (.int .i64 rn))(hb:w.cell? ⟨bx,0,none⟩=some (.pointer (some ⟨x,0,none⟩)))(hx:w.cell? ⟨x,2,none⟩=some (.int .i64 ca)):Calls prog 72 #[.pointer (some ⟨p,0,none⟩), .pointer (some ⟨bx,0,none⟩)] w fun e w'=>e= .returned (.bool (decide (rn<ca)))∧ ∃q,w'=w.drewN q:=by
 go_enter func72,ntmps72;go_wp2
 go_quiet (fail)
 go_wp2;go_ret;exact⟨rfl,_,rfl⟩
section
variable{base x tb:Nat}{g:Gh}{cn:List (Int×Nat×Bs)}{s:St}{j:Js}{w w':World}{F:Ft}
theorem J8{v:Dv}(h:(aS x g j v).holds w F){t:Tr}(ht:t∈j.aI): ∃wv G,w.heap[g.tp t.nm]?=some (.cells (Dg t wv) 92 (0,0))∧(je g wv t.wt).holds w G:=by
 have e:aS x g j v=aa (all (eC g) j.aI) (aa (dB x j v) (aa (iu v.cm j.br) (aa (gJ g v.rm j.reqs) (aa (fW g v.tm j.aI) (aa (all gi j.br) (aa (all (dP g j.c.re) j.reqs) (aa (dF g v.rv j.ring) (aa (gm v.pv j.pull) (aa (dm g v.lv j.hp) (hpA g j.hp)))))))))):=by unfold aS;ac_rfl
 obtain⟨G,hG,_⟩:=aD.left (aw h e);obtain⟨G',wv,lj⟩:=Mr.sN hG t ht;obtain⟨G1,G2,a1,a2,_⟩:=id lj;exact⟨wv,G2,(bQ lj).1,a2⟩
structure Hand(g:Gh)(x bx:Nat)(s:St)(w:World)(ao:Option Addr)(cap:Nat)(O1:Option Addr)(ze:Nat):Prop where
 pu:w.cell? ⟨x,10,none⟩=some (.slice ao s.wait.length cap)
 pu0: ∀c ws,s.wait=c::ws-> ∃b off,ao=some ⟨b,off,none⟩∧w.cell? ⟨b,off,none⟩=some (.int .i64 c)
 ri:w.cell? ⟨x,9,none⟩=some (.slice O1 s.ring.length ze)
 y7:s.wait.length<=16777210∧s.ring.length<=16777210
 find:Calls prog 71 #[.slice O1 s.ring.length ze, .func (.func 72) #[] #[pt bx]] w fun e w'=>e= .returned (ep ((s.ring.find? fun l=>decide ((s.runs l.ten:Int)<s.c.ca)).map fun l=>g.tp l.ten))∧ ∃q,w'=w.drewN q
 wt: ∀l∈s.ring,∀id,l.ids.head?=some id-> ∃b off cp,w.cell? ⟨g.tp l.ten,1,none⟩=some (.slice (some ⟨b,off,none⟩) l.ids.length cp)∧w.cell? ⟨b,off,none⟩=some (pt (g.rp id))∧0<l.ids.length∧l.ids.length<=16777210
theorem vX(h:(stA base x tb g cn s).holds w F)(hi:Inv s)(hz:s.sz<=16777000)(bx:Nat)(sS:w.cell? ⟨bx,0,none⟩=some (pt x)): ∃ao cap O1 ze,Hand g x bx s w ao cap O1 ze:=by
 obtain⟨j,r1,r2,r3,hF,hh⟩:=h;have wf:=dD r1 hi hz;unfold jA at hh;rw[bF]at hh;obtain⟨v,hv⟩:=hh;obtain⟨Gj,mz,_⟩:=aD.left hv;have D:=tO mz;have hPU: ∃G,(gm v.pv j.pull).holds w G:=by obtain⟨G,hG,_⟩:=aD.left (aw mz (show _=aa (gm v.pv j.pull) (aa (dB x j v) (aa (iu v.cm j.br) (aa (gJ g v.rm j.reqs) (aa (fW g v.tm j.aI) (aa (all gi j.br) (aa (all (dP g j.c.re) j.reqs) (aa (all (eC g) j.aI) (aa (dF g v.rv j.ring) (aa (dm g v.lv j.hp) (hpA g j.hp))))))))))by unfold aS;ac_rfl));exact⟨G,hG⟩
 have hRI: ∃G,(dF g v.rv j.ring).holds w G:=by obtain⟨G,hG,_⟩:=aD.left (aw mz (show _=aa (dF g v.rv j.ring) (aa (dB x j v) (aa (iu v.cm j.br) (aa (gJ g v.rm j.reqs) (aa (fW g v.tm j.aI) (aa (all gi j.br) (aa (all (dP g j.c.re) j.reqs) (aa (all (eC g) j.aI) (aa (gm v.pv j.pull) (aa (dm g v.lv j.hp) (hpA g j.hp))))))))))by unfold aS;ac_rfl));exact⟨G,hG⟩
 obtain⟨Gp,Fb⟩:=hPU;obtain⟨Gr,nt⟩:=hRI;obtain⟨ao,cap,Zi⟩:=aJ (Goes.refl Fb);obtain⟨O1,ze,Zl⟩:=aJ (Goes.refl nt);have lw:j.pull.length=s.wait.length:=by rw[r1.pull]
 have lr:j.ring.length=s.ring.length:=by rw[r1.ring,aR]
 have b2:=wf.b2;have b3:=wf.b3;have uN: ∀l∈s.ring,∃t∈j.aI,t.nm=l.ten:=fun l hl=>by obtain⟨t,ht,e⟩:=ax.1 (wf.ring l.ten (by rw[r1.ring];exact ax.2 ⟨l,hl,rfl⟩));exact⟨t,ht,e⟩
 refine⟨ao,cap,O1,ze,by rw[D.1 10];show some v.pv=_;rw[Zi,lw],fun c ws hw=> ?_,by rw[D.1 9];show some v.rv=_;rw[Zl,lr],⟨by omega,by omega⟩, ?_,fun l hl id hid=> ?_⟩
 ·have hG:=Fb;unfold gm at hG;have:j.pull=c::ws:=by rw[r1.pull,hw]
  rw[Zi,this,List.map_cons]at hG;obtain⟨b,off,cp,e1,e2⟩:=mh hG (by simp);cases e1;exact⟨b,off,rfl,e2⟩
 ·have hG:=nt;unfold dF at hG;rw[Zl,lr,r1.ring,az]at hG;have hf:=fiT (.slice O1 s.ring.length ze) s.ring (fun l=>g.tp l.ten) (fun l=>decide ((s.runs l.ten:Int)<s.c.ca)) 72 #[pt bx] (enters_of func72 (by kernel_rfl) rfl) w Gr hG (fun wr hB l hl=> ?_) (by omega)
  ·exact hf
  ·obtain⟨t,ht,et⟩:=uN l hl;obtain⟨wv,G,hb,_⟩:=J8 mz ht;rw[et]at hb;have aQ:g.tp l.ten<w.heap.size:=(bZ.1 hb).1;have kA:bx<w.heap.size:=World.block_lt_of_cell? w ⟨bx,0,none⟩ sS;refine Fc _ bx x _ _ wr ?_ ?_ ?_
   ·rw[hB.cell (p:=⟨_,2,none⟩) aQ];simp only[World.cell?,hb];show some (Value.int .i64 t.rn)=_;rw[r1.rn t ht,et]
   ·rw[hB.cell (p:=⟨_,0,none⟩) kA];exact sS
   ·rw[hB.cell (p:=⟨_,2,none⟩) D.2.2,D.1 2];show some (Value.int .i64 j.c.ca)=_;rw[r1.c]
 ·obtain⟨t,ht,et⟩:=uN l hl;obtain⟨wv,G,hb,hG⟩:=J8 mz ht;have ew:t.wt=l.ids:=by rw[r1.wt t ht,et,St.iV hi hl]
  obtain⟨l',el⟩: ∃l',l.ids=id::l':=by
   cases Nk:l.ids with
   |nil=>rw[Nk]at hid;cases hid
   |cons y l'=>rw[Nk]at hid;simp at hid;exact⟨l',by rw[hid]⟩
  have tB:=wf.b1 t ht;rw[ew]at tB;unfold je at hG;rw[ew,el,List.map_cons]at hG;obtain⟨b,off,cp,e1,e2⟩:=mh hG (by simp);refine⟨b,off,cp, ?_,e2,by rw[el];simp,tB⟩;rw[<-et];simp only[World.cell?,hb];show some wv=_;rw[e1,el]
end
variable{n f:Nat}{s:St}
theorem Sd.give(h:Sd n s){c:Int}{ws:List Int}(hw:s.wait=c::ws)(k:Nat):Sd n (s.give c ws k):=
 ⟨St.jV h.inv c ws (by rw[hw];exact List.sublist_cons_self ..) k,h.ok.give h.inv c ws k hw,au (St.xn hw k) h.sz,h.bd.give hw k⟩
theorem C3(h:s.wait= []):St.bK f s=s:=by
 cases f with
 |zero=>rfl
 |succ f=>unfold St.bK;rw[h]
theorem A7(h:s.ring.find? (fun l=>decide ((s.runs l.ten:Int)<s.c.ca))=none):St.bK f s=s:=by
 cases f with
 |zero=>rfl
 |succ f=>
  unfold St.bK;split
  ·rfl
  ·have:s.ring.findIdx? (fun l=>decide ((s.runs l.ten:Int)<s.c.ca))=none:=by
    rw[List.findIdx?_eq_none_iff];intro l hl;have:=List.find?_eq_none.1 h l hl;simpa using this
   rw[this]
theorem zC{α:Type}{p:α->Bool}: ∀{l:List α} {y:α},l.find? p=some y-> ∃k,l.findIdx? p=some k∧l[k]?=some y
 | [],y,h=>by cases h
 |z::l,y,h=>by
  rw[List.find?_cons]at h;rw[List.findIdx?_cons];cases hp:p z with
  |true=>rw[hp]at h;simp at h;exact⟨0,by simp,by simp[h]⟩
  |false=>rw[hp]at h;obtain⟨k,h1,h2⟩:=zC h;exact⟨k+1,by simp[h1],by simpa using h2⟩
def AR(x:Nat)(w:World):Nat:=match w.cell? ⟨x,10,none⟩with|some (.slice _ n _)=>n|_=>0
structure wW(base x tb:Nat)(cn:List (Int×Nat×Bs))(n:Nat)(s:St)(w:World)(F:Ft)(g':Gh)(s':St)(wr:World):Prop where
 sd:Sd n s'
 goes:Goes (stA base x tb g' cn s') w F wr
 done: ∃f,s'.wait.length<=f∧St.bK f s'=s.serve
theorem tu{base x tb:Nat}{g:Gh}{cn:List (Int×Nat×Bs)}{w:World}{F:Ft}(T:Tabs base w)(h:(stA base x tb g cn s).holds w F)(hs:Sd n s)(hn:n<=16775000):Calls prog 42 #[pt x,pt tb] w fun e w'=>e= .returned (.tuple #[])∧ ∃g',Goes (stA base x tb g' cn s.serve) w F w':=by
 obtain⟨w1,fZ⟩: ∃w1,w1=w.alloc (.cells #[pt x] 40):=⟨_,rfl⟩;obtain⟨bx,qW⟩: ∃bx,bx=w.heap.size:=⟨_,rfl⟩;have HT:Hid (Tabs base w1):=by show Tabs base w1;rw[fZ];exact T.new ((ar _ _).alloc (af _) _)
 have HF:=hide (cr h);have kA:bx<w1.heap.size:=by rw[fZ,qW];simp
 have JJ: ¬F bx:=fun hf=>by have:=aD.lt _ h bx hf;omega
 have Zb:w1.cell? ⟨bx,0,none⟩=some (pt x):=by rw[fZ,qW];simp only[World.cell?,heap_alloc_new];rfl
 have uG:Hid (wW base x tb cn n s w1 F g s w1):=⟨hs,by rw[fZ];exact Goes.refl (dG h _),_,af _,rfl⟩;have mv:Hid (∀(s2:St) (g':Gh) w',Goes (stA base x tb g' cn s2) w1 F w'->Goes (stA base x tb g' cn s2) w F w'):=fun s2 g' w' hg=>by rw[fZ]at hg;exact dy hg
 have VN:Hid (∀{A:aD} {w'},Goes A w1 F w'->w'.cell? ⟨bx,0,none⟩=some (pt x)):=fun hg=>by obtain⟨_,_,o,_⟩:=hg;rw[o.cell (p:=⟨bx,0,none⟩) kA JJ];exact Zb
 have YO:=hide JJ;clear T h hs Zb JJ;unfold pt at*;go_enter func42,ntmps42;go_wp2;rw[<-qW,<-fZ];clear fZ qW;go_loopw [] (fun wr=> ∃(g':Gh) (s':St),Hid (wW base x tb cn n s w1 F g' s' wr)) (fun wr=>AR x wr)
 case atStart=>exact⟨g,s,uG⟩
 case round=>
  obtain⟨g',s',gO⟩:=hrel;have hz:=gO.out.sd.sz;have cb:=VN.out gO.out.goes;have T1:=HT.out.goes HF.out gO.out.goes;obtain⟨F1,bU,o1,n1⟩:=gO.out.goes;obtain⟨ao,cap,O1,ze,HD⟩:=vX bU gO.out.sd.inv (by omega) bx cb;have hlen:AR x wr=s'.wait.length:=by unfold AR;rw[HD.pu]
  have pQ:=hide hlen;have c10:=HD.pu;have c9:=HD.ri;have Ff:=HD.y7;cases uL:s'.wait with
  |nil=>
   have HX:Hid (∃g',Goes (stA base x tb g' cn s.serve) w F wr):=by obtain⟨f,_,e⟩:=gO.out.done;rw[C3 uL]at e;exact⟨g',mv.out _ _ _ (by rw[<-e];exact gO.out.goes)⟩
   rw[uL]at c10;clear gO HD bU o1 n1 hlen Ff T1;go_wp2;go_end0;exact⟨rfl,HX.out⟩
  |cons c ws=>
   obtain⟨b,off,rfl,cb0⟩:=HD.pu0 c ws uL;have jg:s'.wait.length=ws.length+1:=by rw[uL];rfl
   have yI:=hide HD.find;have JO:(0:Int)<((ws.length:Nat):Int)+1:=by omega
   cases TF:(s'.ring.find? fun l=>decide ((s'.runs l.ten:Int)<s'.c.ca))with
   |none=>
    have HX:Hid (∀q,∃g',Goes (stA base x tb g' cn s.serve) w F (wr.drewN q)):=fun q=>by obtain⟨f,_,e⟩:=gO.out.done;rw[A7 TF]at e;exact⟨g',mv.out _ _ _ (by rw[<-e];exact gO.out.goes.drewN q)⟩
    rw[TF]at yI;change Hid (Calls prog 71 _ wr fun e w'=>e= .returned (.pointer none)∧ ∃q,w'=wr.drewN q)at yI;rw[jg]at c10 Ff;clear gO HD bU o1 n1 hlen T1;unfold pt at*;generalize ws.length=nw at*;generalize s'.ring.length=nr at*;go_wp2_with (first
     |(go_at_call 71;go_must(refine yI.out.mono ?_;rintro e w2⟨rfl,q,rfl⟩)))
    exact bodyPost_ret (results_none rfl _ _ _) rfl ⟨rfl,HX.out q⟩
   |some l=>
    obtain⟨k,hk,hl⟩:=zC TF;obtain⟨id,q,hid,hq,hqt⟩:=St.um gO.out.sd.inv hl;have Fw:=cK hl;obtain⟨b2,Yi,mJ,ct1,cb2,tF,yB⟩:=HD.wt l Fw id hid;rw[TF]at yI;change Hid (Calls prog 71 _ wr fun e w'=>e= .returned (.pointer (some ⟨g'.tp l.ten,0,none⟩))∧ ∃q,w'=wr.drewN q)at yI;have YJ:Hid (∀q0,Calls prog 73 #[.pointer (some ⟨x,0,none⟩), .int .i64 c] (wr.drewN q0) fun e w1=>e= .returned (.tuple #[])∧w1.cell? ⟨bx,0,none⟩=some (.pointer (some ⟨x,0,none⟩))∧
      Hid (Calls prog 74 #[.pointer (some ⟨x,0,none⟩), .pointer (some ⟨g'.rp id,0,none⟩)] w1 fun e w2=>e= .returned (.tuple #[])∧w2.cell? ⟨bx,0,none⟩=some (.pointer (some ⟨x,0,none⟩))∧
       Hid (Calls prog 75 #[.pointer (some ⟨x,0,none⟩), .pointer (some ⟨g'.tp l.ten,0,none⟩)] w2 fun e w3=>e= .returned (.tuple #[])∧w3.cell? ⟨bx,0,none⟩=some (.pointer (some ⟨x,0,none⟩))∧
        Hid (Calls prog 76 #[.pointer (some ⟨x,0,none⟩), .pointer (some ⟨tb,0,none⟩), .int .i64 c, .pointer (some ⟨g'.rp id,0,none⟩)] w3 fun e w4=>e= .returned (.tuple #[])∧ ∃Jg,Goes (stA base x tb Jg cn (s'.give c ws k)) (wr.drewN q0) F1 w4)))):=fun q0=>
     M6 (T1.below (pU (ar _ _) q0)) (bI bU q0) gO.out.sd (by omega) uL hl hid hq bx (by have:=o1.size;show bx<wr.heap.size;omega) (fun hf=>by
      rcases n1 bx hf with e|e
      ·exact YO.out e
      ·omega) cb
    have BL:Hid (∀q0 w4 Jg,Goes (stA base x tb Jg cn (s'.give c ws k)) (wr.drewN q0) F1 w4->wW base x tb cn n s w1 F Jg (s'.give c ws k) w4∧AR x w4<s'.wait.length):=fun q0 w4 Jg hg=>by
     have iG:=ay o1 n1 (cX hg);have q9:=gO.out.sd.give uL k;have hwg:(s'.give c ws k).wait=ws:=by rw[St.r6 hl hid hq];rfl
     refine⟨⟨q9,iG, ?_⟩, ?_⟩
     ·obtain⟨f,hf,e⟩:=gO.out.done;rw[jg]at hf;obtain⟨f',rfl⟩: ∃f',f=f'+1:=⟨f-1,by omega⟩;refine⟨f',by rw[hwg];omega, ?_⟩;rw[<-e]
      conv=>rhs;unfold St.bK
      rw[uL];dsimp only;rw[hk]
     ·have cb4:=VN.out iG;obtain⟨F4,u9,_⟩:=iG;obtain⟨_,_,_,_,HD4⟩:=vX u9 q9.inv (by have:=q9.sz;omega) bx cb4;unfold AR;rw[HD4.pu];dsimp only;rw[hwg,jg];omega
    rw[jg]at c10 Ff BL pQ;clear gO HD bU o1 n1 hlen T1 hq hqt hk hl Fw hid TF uG mv VN YO HT HF;unfold pt at*;generalize ws.length=nw at*;generalize s'.ring.length=nr at*;generalize l.ids.length=ni at*;generalize g'.tp l.ten=tp at*;generalize g'.rp id=rp at*;go_wp2_with (first
     |(go_at_call 71;go_must(refine yI.out.mono ?_;rintro e w2⟨rfl,q0,rfl⟩)))
    go_quiet (fail)
    go_wp2_with (first
     |(go_at_call 73;go_must(refine(YJ.out _).mono ?_;rintro e w3⟨rfl,y1,Rp⟩;clear YJ yI))
     |(go_at_call 74;go_must(refine Rp.out.mono ?_;rintro e w4⟨rfl,y2,Rs⟩;clear Rp))
     |(go_at_call 75;go_must(refine Rs.out.mono ?_;rintro e w5⟨rfl,y3,Yy⟩;clear Rs))
     |(go_at_call 76;go_must(refine Yy.out.mono ?_;rintro e w6⟨rfl,Jg,gM⟩;obtain⟨hsv,Pf⟩:=BL.out _ _ _ gM;have V8:=hide hsv;have Sq:=hide Pf;clear Yy gM hsv Pf)))
    go_roundw
    case rel=>exact⟨Jg,_,V8⟩
    case measure=>have:=Sq.out;have:=pQ.out;omega
variable{s:St}
theorem Rn(w:World):(zeroValue 124).run prog w= .ok (.pointer none) w:=by kernel_rfl
section
variable{base x tb:Nat}{g:Gh}{cn:List (Int×Nat×Bs)}{s:St}{w:World}{F:Ft}
theorem tY(h:(stA base x tb g cn s).holds w F)(hi:Inv s)(id:Int)(hid:I6 id): ∃rm,w.cell? ⟨x,7,none⟩=some (.map (some rm))∧x<w.heap.size∧ ∀w1,Below w.heap.size w w1->(Instr.lookup 82 (.map (some rm)) (.int .i64 id) false).run prog w1= .ok (match s.req id with|some _=>pt (g.rp id)|none=> .pointer none) w1:=by
 obtain⟨j,r1,r2,r3,hF,hh⟩:=h;unfold jA at hh;rw[bF]at hh;obtain⟨v,hv⟩:=hh;obtain⟨Gj,mz,_⟩:=aD.left hv;have D:=tO mz;refine⟨v.rm,D.1 7,D.2.2,fun w1 hB=> ?_⟩;obtain⟨G,hG,_⟩:=aD.left (aw mz (show _=aa (gJ g v.rm j.reqs) (aa (dB x j v) (aa (iu v.cm j.br) (aa (fW g v.tm j.aI) (aa (all gi j.br) (aa (all (dP g j.c.re) j.reqs) (aa (all (eC g) j.aI) (aa (dF g v.rv j.ring) (aa (gm v.pv j.pull) (aa (dm g v.lv j.hp) (hpA g j.hp))))))))))by unfold aS;ac_rfl));have gZ:=j6 (Mr.aF hG hB) (t:=82) (e:=124) underlying82 (Rn w1) id hid;have Fv:(Instr.lookup 82 (.map (some v.rm)) (.int .i64 id) false).run prog w1= .ok (mQ (j.reqs.map fun r=>(r.q.id,g.rp r.q.id)) id) w1:=gZ;rw[Fv];have qZ:(j.reqs.map fun r=>(r.q.id,g.rp r.q.id)).map (·.1)=s.reqs.map (·.id):=by rw[<-r1.reqs,az,az];rfl
 have gw:=hi.rid;unfold St.ks at gw;rw[az]at gw;cases hq:s.req id with
 |none=>
  have:id∉(j.reqs.map fun r=>(r.q.id,g.rp r.q.id)).map (·.1):=by rw[qZ];intro hm;obtain⟨r,hr,e⟩:=ax.1 hm;exact List.find?_eq_none.1 hq r hr (by simpa using e)
  rw[iX this]
 |some q=>obtain⟨r,hr,t,ht,er,ei,et,uY,yw⟩:=fV r1 hq;have hl:=iY (m:=j.reqs.map fun r=>(r.q.id,g.rp r.q.id)) (by rw[qZ];exact gw) (ax.2 ⟨r,hr,rfl⟩);dsimp only at hl;rw[er,ei]at hl;rw[hl]
end
theorem Ik(p nb cb:Nat)(n m c d:Int)(w:World)(h0:w.cell? ⟨p,0,none⟩=some (.int .i64 n))(h2:w.cell? ⟨p,2,none⟩=some (.int .i64 d))(hn:w.cell? ⟨nb,0,none⟩=some (.int .i64 m))(hc:w.cell? ⟨cb,0,none⟩=some (.int .i64 c)):Calls prog 225 #[.pointer (some ⟨p,0,none⟩), .pointer (some ⟨nb,0,none⟩), .pointer (some ⟨cb,0,none⟩)] w fun e w'=>e= .returned (.bool (n==m &&d==c))∧ ∃q,w'=w.drewN q:=by
 cases QC:(n==m)with
 |true=>
  go_enter func225,ntmps225;go_wp2
  go_quiet (fail)
  go_wp2;go_ret;exact⟨by simp,_,rfl⟩
 |false=>
  go_enter func225,ntmps225;go_wp2
  go_quiet (fail)
  go_wp2;go_ret;exact⟨by simp,_,rfl⟩
theorem E7(ho:Ok s)(c id m:Int):(((s.ag.filter (·.id==id)).find? fun a=>a.n==m &&a.conn==c).map fun a=>(key a:Int×Int))=(s.mine c id m).map fun _=>(id,m):=by
 cases hm:s.mine c id m with
 |none=>
  have h:=St.FV ho hm;have:((s.ag.filter (·.id==id)).find? fun a=>a.n==m &&a.conn==c)=none:=by rw[List.find?_eq_none];intro a ha;rw[aG]at ha;intro e;simp only[a8,beq_iff_eq]at e;exact h a ha.1 ⟨by simpa using ha.2,e.1,e.2⟩
  rw[this];rfl
 |some i=>
  obtain⟨a,h1,h2,h3,h4,_⟩:=St.l6 hm;cases hf:((s.ag.filter (·.id==id)).find? fun a=>a.n==m &&a.conn==c)with
  |none=>have:=List.find?_eq_none.1 hf a (aG.2 ⟨cK h1,by simpa using h2⟩);simp[h3,h4]at this
  |some b=>
   have hb:=cO hf;have ZJ:=List.find?_some hf;rw[aG]at hb;simp only[a8,beq_iff_eq]at ZJ;have e1:b.id=id:=by simpa using hb.2
   simp only[Option.map_some];unfold key;rw[e1,ZJ.1]
theorem qQ{base x tb:Nat}{g:Gh}{cn:List (Int×Nat×Bs)}{w:World}{F:Ft}(h:(stA base x tb g cn s).holds w F)(hi:Inv s)(ho:Ok s)(hz:s.sz<=16777000)(c id m:Int)(hid:I6 id):Calls prog 186 #[pt x, .int .i64 c, .int .i64 id, .int .i64 m] w fun e w'=>e= .returned (ep ((s.mine c id m).map fun _=>g.ap (id,m)))∧Below w.heap.size w w':=by
 obtain⟨rm,c7,L1,lL⟩:=tY h hi id hid;have qh:Below w.heap.size w ((w.alloc (.cells #[.int .i64 c] 3)).alloc (.cells #[.int .i64 m] 3)):=((ar _ _).alloc (af _) _).alloc (by simp) _;have gZ:=lL _ qh;have Y8:((w.alloc (.cells #[.int .i64 c] 3)).alloc (.cells #[.int .i64 m] 3)).cell? ⟨x,7,none⟩=some (.map (some rm)):=by rw[qh.cell (p:=⟨x,7,none⟩) L1];exact c7
 have HB:=hide qh;cases hq:s.req id with
 |none=>
  rw[hq]at gZ;have hm:s.mine c id m=none:=by
   cases hm:s.mine c id m with
   |none=>rfl
   |some i=>obtain⟨a,h1,h2,_⟩:=St.l6 hm;obtain⟨q,FA,_⟩:=St.cf (hi.bB a (cK h1));rw[h2,hq]at FA;cases FA
  rw[hm];have aad:=gZ;clear lL h qh gZ;unfold pt ep at*;go_enter func186,ntmps186;go_wp2;go_ret;exact⟨rfl,HB.out⟩
 |some q=>
  rw[hq]at gZ;obtain⟨ao,cap,dz,cJ,RA⟩:=eZ h hi hz hq;have c7r:((w.alloc (.cells #[.int .i64 c] 3)).alloc (.cells #[.int .i64 m] 3)).cell? ⟨g.rp id,7,none⟩=some (.slice ao (s.nums id).length cap):=by rw[qh.cell (p:=⟨g.rp id,7,none⟩) RA.lt.1];exact RA.al
  have yI:Hid (Calls prog 166 #[.slice ao (s.nums id).length cap, .func (.func 225) #[] #[.pointer (some ⟨w.heap.size+1,0,none⟩), .pointer (some ⟨w.heap.size,0,none⟩)]] ((w.alloc (.cells #[.int .i64 c] 3)).alloc (.cells #[.int .i64 m] 3)) fun e w'=>e= .returned (ep ((s.mine c id m).map fun _=>g.ap (id,m)))∧Below w.heap.size w w'):=by
   have h0:=h;obtain⟨j,r1,r2,r3,hF,hh⟩:=h0;have wf:=dD r1 hi hz;obtain⟨r,hr,t,ht,er,ei,et,uY,yw⟩:=fV r1 hq;obtain⟨v,av,wv,Fs,hw⟩:=kK hh wf hr ht;obtain⟨G0,kP,_⟩:=LG hw;have RD:av= .slice ao (s.nums id).length cap:=by have:=(L4 hw).1 7;rw[er,ei,RA.al]at this;have h2:some av=some (Value.slice ao (s.nums id).length cap):=this.symm;exact Option.some.inj h2
   have hL:(rowA 127 1 (.slice ao (s.nums id).length cap) (s.ag.filter (·.id==id)).length ((s.ag.filter (·.id==id)).map fun a=>pt (g.ap (key a)))).holds w G0:=by
    unfold iM at kP;rw[RD,yw,er,ei]at kP;have e1:(s.nums id).length=(s.ag.filter (·.id==id)).length:=by unfold St.nums;rw[aR]
    have e2:(s.nums id).map (fun n=>pt (g.ap (id,n)))=(s.ag.filter (·.id==id)).map fun a=>pt (g.ap (key a)):=by
     unfold St.nums;rw[az];refine bu fun a ha=> ?_;have:a.id=id:=by simpa using(aG.1 ha).2
     simp only[Function.comp_def];unfold key;rw[this]
    rw[e2]at kP;rw[<-e1];exact kP
   have kA:=RA.y7.1;have hfm:=E7 ho c id m;show Calls _ _ _ _ _;have hf:=Zp (.slice ao (s.nums id).length cap) (s.ag.filter (·.id==id)) (fun a=>g.ap (key a)) (fun a=>a.n==m &&a.conn==c) 225 #[.pointer (some ⟨w.heap.size+1,0,none⟩), .pointer (some ⟨w.heap.size,0,none⟩)] (enters_of func225 (by kernel_rfl) rfl) _ G0 (Mr.aF hL qh) (fun wr BD a ha=> ?_) (by unfold St.nums at kA;rw[aR]at kA;omega)
   ·refine hf.mono ?_;rintro e w'⟨rfl,q0,rfl⟩;refine⟨?_,pU qh q0⟩;have:((s.ag.filter (·.id==id)).find? fun a=>a.n==m &&a.conn==c).map (fun a=>g.ap (key a))=(((s.ag.filter (·.id==id)).find? fun a=>a.n==m &&a.conn==c).map fun a=>(key a:Int×Int)).map g.ap:=by rw[Option.map_map];rfl
    rw[this,hfm,Option.map_map];rfl
   ·rw[aG]at ha;obtain⟨p0,p1,p2,p3⟩:=jc h hi hz ha.1;have aQ:g.ap (key a)<w.heap.size:=World.block_lt_of_cell? w ⟨_,0,none⟩ p0;have jf:=qh.size;refine Ik (g.ap (key a)) (w.heap.size+1) w.heap.size a.n m c a.conn wr ?_ ?_ ?_ ?_
    ·rw[BD.cell (p:=⟨_,0,none⟩) (bE aQ jf),qh.cell (p:=⟨_,0,none⟩) aQ];exact p0
    ·rw[BD.cell (p:=⟨_,2,none⟩) (bE aQ jf),qh.cell (p:=⟨_,2,none⟩) aQ];exact p2
    ·rw[BD.cell (p:=⟨w.heap.size+1,0,none⟩) (by simp)];have:=heap_alloc_new (w.alloc (.cells #[.int .i64 c] 3)) (.cells #[.int .i64 m] 3);have cY:(w.alloc (.cells #[.int .i64 c] 3)).heap.size=w.heap.size+1:=by simp
     rw[cY]at this;simp only[World.cell?,this];rfl
    ·rw[BD.cell (p:=⟨w.heap.size,0,none⟩) (by simp;omega)];have h1:=heap_alloc_new w (.cells #[.int .i64 c] 3);have h2:=Below.heap_alloc (w.alloc (.cells #[.int .i64 c] 3)) (.cells #[.int .i64 m] 3) w.heap.size (by simp);rw[h1]at h2;simp only[World.cell?,h2];rfl
  clear lL h qh RA c7;unfold pt at*;generalize ep ((s.mine c id m).map fun _=>g.ap (id,m))=oo at*;generalize g.rp id=rp at*;generalize(s.nums id).length=nn at*;go_enter func186,ntmps186;go_wp2_with (first
   |(go_at_call 166;go_must(refine yI.out.mono ?_;rintro e w2⟨rfl,cL⟩;have Hd:=hide cL;clear cL)))
  go_ret;exact⟨rfl,Hd.out⟩
end Pj
namespace Pj
open Go.RowKit aD Mc bA
attribute [local go_sem] ae ah
variable{s:St}{base x tb n:Nat}{g:Gh}{cn:List (Int×Nat×Bs)}{w:World}{F:Ft}
theorem K8(id:Int)(t:Bs):said [.s [118,97,108], .n id, .s t]= [118,97,108,32]++a7 id++ [32]++t:=by simp[said,Lib.join,Part.txt]
theorem Busy.any(h:Busy s (fun _=>False))(P:Int->Prop):Busy s P:=h.mono (fun _ hf=>hf.elim)
def vP(s:St)(c:Int)(m:Mg):St:=
 match s.mine c m.id m.bB with
 |none=>s
 |some i=>match s.req m.id with|none=>s|some r=>((s.say r.conn ([118,97,108,32]++a7 m.id++ [32]++m.txt)).aU i).shut m.id
def vS(s:St)(c:Int)(m:Mg):St:=match s.mine c m.id m.bB with|none=>s|some i=>(s.aU i).again m.id true
theorem IX(T:Tabs base w)(h:(stA base x tb g cn s).holds w F)(hs:Sd n s)(hn:n<=16775000)(hb:Busy s (fun _=>False))(c:Int)(m:Mg)(hid:0<=m.id∧m.id<=999999)(htx:m.txt.length<=64):Calls prog 141 #[pt x,pt tb, .int .i64 c, .agg m.cs] w fun e w'=>e= .returned (.tuple #[])∧Goes (stA base x tb g cn (vP s c m)) w F w':=by
 obtain⟨w1,fZ⟩: ∃w1,w1=w.alloc (.cells m.cs 149):=⟨_,rfl⟩;obtain⟨bx,qW⟩: ∃bx,bx=w.heap.size:=⟨_,rfl⟩;have qh:Below w.heap.size w w1:=by rw[fZ];exact(ar _ _).alloc (af _) _
 have T1:=T.new qh;have h1:(stA base x tb g cn s).holds w1 F:=Mr.aF h qh;have kA:bx<w1.heap.size:=by rw[fZ,qW];simp
 have JJ: ¬F bx:=fun hf=>by have:=aD.lt _ h bx hf;omega
 have sS: ∀k,w1.cell? ⟨bx,k,none⟩=m.cs[k]?:=fun k=>by rw[fZ,qW];simp only[World.cell?,heap_alloc_new];rfl
 have mv:Hid (∀(s2:St) w',Goes (stA base x tb g cn s2) w1 F w'->Goes (stA base x tb g cn s2) w F w'):=fun s2 w' hg=>by rw[fZ]at hg;exact dy hg
 have hz:=hs.sz;have BJ:=qQ h1 hs.inv hs.ok (by omega) c m.id m.bB (I6.of (by omega) (by omega));have b1:w1.cell? ⟨bx,1,none⟩=some (.int .i64 m.id):=sS 1;have b2:w1.cell? ⟨bx,2,none⟩=some (.int .i64 m.bB):=sS 2;have b4:w1.cell? ⟨bx,4,none⟩=some (.string ⟨m.txt.toArray⟩):=sS 4;cases hm:s.mine c m.id m.bB with
 |none=>
  have es:vP s c m=s:=by unfold vP;rw[hm]
  rw[es];have HX:Hid (∀w',Below w1.heap.size w1 w'->Goes (stA base x tb g cn s) w F w'):=fun w' jK=>mv.out _ _ ((Goes.refl h1).below jK);rw[hm]at BJ;change Calls prog 186 _ w1 fun e w'=>e= .returned (.pointer none)∧Below w1.heap.size w1 w' at BJ;have HW:=hide fZ;have Hs:=hide qW;clear T h hs qh T1 h1 sS hb JJ fZ qW;unfold pt Mg.cs at*;go_enter func141,ntmps141;go_wp2_with fail;rw[<-Hs.out,<-HW.out];go_wp2_with (first
   |(go_at_call 186;go_must(refine BJ.mono ?_;rintro e w2⟨rfl,cL⟩;have Hd:=hide cL;clear cL)))
  (try simp only[Exit.inBlock,Exit.then])
  exact bodyPost_ret (results_none rfl _ _ _) rfl ⟨rfl,HX.out _ Hd.out⟩
 |some i=>
  obtain⟨a,ha,zw,DK,Wt,_⟩:=St.l6 hm;have mM:=cK ha;obtain⟨q,hq,tK,Cs⟩:=St.cf (hs.inv.bB a mM);rw[zw]at hq Cs;have yA:key a=(m.id,m.bB):=by unfold key;rw[zw,DK]
  have es:vP s c m=((s.say q.conn ([118,97,108,32]++a7 m.id++ [32]++m.txt)).aU i).shut m.id:=by unfold vP;rw[hm];dsimp only;rw[hq]
  rw[es];rw[hm]at BJ;change Calls prog 186 _ w1 fun e w'=>e= .returned (.pointer (some ⟨g.ap (m.id,m.bB),0,none⟩))∧Below w1.heap.size w1 w' at BJ;have jf:=hs.say q.conn ([118,97,108,32]++a7 m.id++ [32]++m.txt);have JR:=hs.stop q.conn ([118,97,108,32]++a7 m.id++ [32]++m.txt) ha;have HC:Hid (∀w2,Below w1.heap.size w1 w2->w2.cell? ⟨g.ap (m.id,m.bB),1,none⟩=some (pt (g.rp m.id))∧(w2.cell? ⟨g.rp m.id,0,none⟩=some (.int .i64 m.id)∧w2.cell? ⟨g.rp m.id,1,none⟩=some (.int .i64 q.conn)∧w2.cell? ⟨bx,4,none⟩=some (.string ⟨m.txt.toArray⟩))∧
    Hid (∀nq,Calls prog 89 #[pt tb, .int .i64 q.conn, .slice (some ⟨w2.heap.size,0,none⟩) 3 3] ((w2.alloc (.cells #[.iface 9 (.string ⟨#[118,97,108]⟩), .iface 3 (.int .i64 m.id), .iface 9 (.string ⟨m.txt.toArray⟩)] 20)).drewN nq) fun e w5=>e= .returned (.tuple #[])∧
     (w5.cell? ⟨g.rp m.id,0,none⟩=some (.int .i64 m.id)∧w5.cell? ⟨g.rp m.id,1,none⟩=some (.int .i64 q.conn)∧w5.cell? ⟨bx,4,none⟩=some (.string ⟨m.txt.toArray⟩))∧
     Hid (Calls prog 80 #[pt x,pt tb,pt (g.ap (m.id,m.bB))] w5 fun e w6=>e= .returned (.tuple #[])∧
      Hid (Calls prog 81 #[pt x,pt tb,pt (g.rp m.id)] w6 fun e w7=>e= .returned (.tuple #[])∧Goes (stA base x tb g cn (((s.say q.conn ([118,97,108,32]++a7 m.id++ [32]++m.txt)).aU i).shut m.id)) w F w7)))):=fun w2 mL=>by
   have T2:=T1.new mL;have h2:(stA base x tb g cn s).holds w2 F:=Mr.aF h1 mL;obtain⟨p0,p1,p2,p3⟩:=jc h2 hs.inv (by omega) mM;obtain⟨_,_,_,_,RA⟩:=eZ h2 hs.inv (by omega) hq;rw[yA,zw]at p1;refine⟨p1,⟨RA.ci,RA.conn,by rw[mL.cell (p:=⟨bx,4,none⟩) kA];exact b4⟩,fun nq=> ?_⟩;have nz:=jD T2 h2 (by omega) q.conn [.s [118,97,108], .n m.id, .s m.txt] ([118,97,108,32]++a7 m.id++ [32]++m.txt) (K8 _ _) (by simp) (by simp) (by
    intro p hp;simp only[List.mem_cons,List.not_mem_nil,or_false]at hp;rcases hp with rfl|rfl|rfl
    ·exact Part.qD (by decide)
    ·exact Part.xV (tL hid)
    ·exact Part.qD htx) nq
   refine nz.mono ?_;rintro e w5⟨rfl,g5⟩;have T5:=T2.goes (cr h) g5;obtain⟨F5,E9,o5,n5⟩:=g5;obtain⟨_,_,_,_,Y2⟩:=eZ E9 jf.inv (by have:=jf.sz;omega) (id:=m.id) (q:=q) hq;refine⟨rfl,⟨Y2.ci,Y2.conn, ?_⟩, ?_⟩
   ·have cY:=mL.size;rw[o5.cell (p:=⟨bx,4,none⟩) (by show bx<w2.heap.size;omega) JJ,mL.cell (p:=⟨bx,4,none⟩) kA];exact b4
   show Calls _ _ _ _ _;rw[<-yA];refine(ox T5 E9 jf.inv jf.ok (by have:=jf.sz;omega) (i:=i) (a:=a) ha).mono ?_;rintro e w6⟨rfl,k,g6⟩;have Td:=ay o5 n5 g6.drop;have T6:=T2.goes (cr h) Td;refine⟨rfl, ?_⟩;obtain⟨F6,Fa,o6,n6⟩:=Td;show Calls _ _ _ _ _;refine(pz T6 Fa JR (by omega) (id:=m.id) (q:=q) (by rw[lC];exact hq) ?_).mono ?_
   ·have:=Busy.aU (i:=i) (a:=a) ((Busy.any hb (fun y=>y=m.id)).say q.conn ([118,97,108,32]++a7 m.id++ [32]++m.txt)) ha;exact this.mono (fun y hy=>hy.elim (fun h=>h) (fun h=>h.trans zw))
   ·rintro e w7⟨rfl,g7⟩;refine⟨rfl,mv.out _ _ (ay ((Only.refl F w1).below mL) (fun k hk=> .inl hk) (ay o6 n6 g7))⟩
  have HW:=hide fZ;have Hs:=hide qW;clear T h hs qh T1 h1 sS hb JJ fZ qW jf JR hm hq yA mM ha zw DK Wt;unfold pt Mg.cs at*;generalize g.ap (m.id,m.bB)=ap at*;generalize g.rp m.id=rp at*;go_enter func141,ntmps141;go_wp2_with fail;rw[<-Hs.out,<-HW.out];go_wp2_with (first
   |(go_at_call 186;go_must(refine BJ.mono ?_;rintro e w2⟨rfl,cL⟩;obtain⟨y1,⟨y2,y3,y4⟩,gj⟩:=HC.out w2 cL;clear cL HC BJ)))
  have ny2:=World.new_ne w2 _ y2;have ny3:=World.new_ne w2 _ y3;have ny4:=World.new_ne w2 _ y4;go_region_held3 (fun w'=>w'.cell? ⟨rp,0,none⟩=some (.int .i64 m.id)∧w'.cell? ⟨rp,1,none⟩=some (.int .i64 q.conn)∧w'.cell? ⟨bx,4,none⟩=some (.string ⟨m.txt.toArray⟩)) (go_keep) (first
   |(go_at_call 89;go_must(refine(gj.out _).mono ?_;rintro e w5⟨rfl,⟨z0,z1,z2⟩,mS⟩)))
  all_goals
   go_wp2_with (first
    |(go_at_call 80;go_must(refine mS.out.mono ?_;rintro e w6⟨rfl,EM⟩;clear mS))
    |(go_at_call 81;go_must(refine EM.out.mono ?_;rintro e w7⟨rfl,ik⟩;have yL:=hide ik;clear ik EM)))
   go_end0;exact⟨rfl,yL.out⟩
theorem I5(T:Tabs base w)(h:(stA base x tb g cn s).holds w F)(hs:Sd n s)(hn:n<=16775000)(hb:Busy s (fun _=>False))(c:Int)(m:Mg)(hid:0<=m.id∧m.id<=999999):Calls prog 142 #[pt x,pt tb, .int .i64 c, .agg m.cs] w fun e w'=>e= .returned (.tuple #[])∧Goes (stA base x tb g cn (vS s c m)) w F w':=by
 obtain⟨w1,fZ⟩: ∃w1,w1=w.alloc (.cells m.cs 149):=⟨_,rfl⟩;obtain⟨bx,qW⟩: ∃bx,bx=w.heap.size:=⟨_,rfl⟩;have qh:Below w.heap.size w w1:=by rw[fZ];exact(ar _ _).alloc (af _) _
 have T1:=T.new qh;have h1:(stA base x tb g cn s).holds w1 F:=Mr.aF h qh;have sS: ∀k,w1.cell? ⟨bx,k,none⟩=m.cs[k]?:=fun k=>by rw[fZ,qW];simp only[World.cell?,heap_alloc_new];rfl
 have mv:Hid (∀(s2:St) w',Goes (stA base x tb g cn s2) w1 F w'->Goes (stA base x tb g cn s2) w F w'):=fun s2 w' hg=>by rw[fZ]at hg;exact dy hg
 have hz:=hs.sz;have BJ:=qQ h1 hs.inv hs.ok (by omega) c m.id m.bB (I6.of (by omega) (by omega));have b1:w1.cell? ⟨bx,1,none⟩=some (.int .i64 m.id):=sS 1;have b2:w1.cell? ⟨bx,2,none⟩=some (.int .i64 m.bB):=sS 2;cases hm:s.mine c m.id m.bB with
 |none=>
  have es:vS s c m=s:=by unfold vS;rw[hm]
  rw[es];have HX:Hid (∀w',Below w1.heap.size w1 w'->Goes (stA base x tb g cn s) w F w'):=fun w' jK=>mv.out _ _ ((Goes.refl h1).below jK);rw[hm]at BJ;change Calls prog 186 _ w1 fun e w'=>e= .returned (.pointer none)∧Below w1.heap.size w1 w' at BJ;have HW:=hide fZ;have Hs:=hide qW;clear T h hs qh T1 h1 sS hb fZ qW;unfold pt Mg.cs at*;go_enter func142,ntmps142;go_wp2_with fail;rw[<-Hs.out,<-HW.out];go_wp2_with (first
   |(go_at_call 186;go_must(refine BJ.mono ?_;rintro e w2⟨rfl,cL⟩;have Hd:=hide cL;clear cL)))
  (try simp only[Exit.inBlock,Exit.then])
  exact bodyPost_ret (results_none rfl _ _ _) rfl ⟨rfl,HX.out _ Hd.out⟩
 |some i=>
  obtain⟨a,ha,zw,DK,Wt,_⟩:=St.l6 hm;have mM:=cK ha;obtain⟨q,hq,tK,Cs⟩:=St.cf (hs.inv.bB a mM);rw[zw]at hq Cs;have yA:key a=(m.id,m.bB):=by unfold key;rw[zw,DK]
  have es:vS s c m=(s.aU i).again m.id true:=by unfold vS;rw[hm]
  rw[es];rw[hm]at BJ;change Calls prog 186 _ w1 fun e w'=>e= .returned (.pointer (some ⟨g.ap (m.id,m.bB),0,none⟩))∧Below w1.heap.size w1 w' at BJ;have JR:=hs.DL i;have HC:Hid (∀w2,Below w1.heap.size w1 w2->Calls prog 80 #[pt x,pt tb,pt (g.ap (m.id,m.bB))] w2 fun e w6=>e= .returned (.tuple #[])∧w6.cell? ⟨g.ap (m.id,m.bB),1,none⟩=some (pt (g.rp m.id))∧
      Hid (Calls prog 67 #[pt x,pt tb,pt (g.rp m.id)] w6 fun e w7=>e= .returned (.tuple #[])∧Goes (stA base x tb g cn ((s.aU i).again m.id true)) w F w7)):=fun w2 mL=>by
   have T2:=T1.new mL;have h2:(stA base x tb g cn s).holds w2 F:=Mr.aF h1 mL;rw[<-yA];refine(ox T2 h2 hs.inv hs.ok (by omega) (i:=i) (a:=a) ha).mono ?_;rintro e w6⟨rfl,k,g6⟩;have g6c:=g6;obtain⟨F6',WH,_⟩:=g6c;have tA:=(bQ (aw WH (aZ _ _))).1;have Td:=g6.drop;have T6:=T2.goes (cr h) Td;refine⟨rfl,by simp only[World.cell?,tA];show some (pt (g.rp a.id))=_;rw[zw], ?_⟩;obtain⟨F6,Fa,o6,n6⟩:=Td;show Calls _ _ _ _ _;refine(vD T6 Fa JR (by omega) (id:=m.id) (q:=q) (by rw[lC];exact hq) ?_).mono ?_
   ·have:=Busy.aU (i:=i) (a:=a) (Busy.any hb (fun y=>y=m.id)) ha;exact this.mono (fun y hy=>hy.elim (fun h=>h) (fun h=>h.trans zw))
   ·rintro e w7⟨rfl,g7⟩;refine⟨rfl,mv.out _ _ (ay ((Only.refl F w1).below mL) (fun k hk=> .inl hk) (ay o6 n6 g7))⟩
  have HW:=hide fZ;have Hs:=hide qW;clear T h hs qh T1 h1 sS hb fZ qW JR hm hq yA mM ha zw DK Wt;unfold pt Mg.cs at*;generalize g.ap (m.id,m.bB)=ap at*;generalize g.rp m.id=rp at*;go_enter func142,ntmps142;go_wp2_with fail;rw[<-Hs.out,<-HW.out];go_wp2_with (first
   |(go_at_call 186;go_must(refine BJ.mono ?_;rintro e w2⟨rfl,cL⟩;have mS:=hide (HC.out w2 cL);clear cL HC BJ))
   |(go_at_call 80;go_must(refine mS.out.mono ?_;rintro e w6⟨rfl,y1,EM⟩;clear mS))
   |(go_at_call 67;go_must(refine EM.out.mono ?_;rintro e w7⟨rfl,ik⟩;have yL:=hide ik;clear ik EM)))
  go_end0;exact⟨rfl,yL.out⟩
theorem Gs(id:Int):said [.s [110,111,110,101], .n id]= [110,111,110,101,32]++a7 id:=by simp[said,Lib.join,Part.txt]
theorem Gq(id:Int):said [.s [103,111,110,101], .n id]= [103,111,110,101,32]++a7 id:=by simp[said,Lib.join,Part.txt]
def zb(s:St)(c id:Int):St:=
 match s.req id with
 |none=>s.say c ([110,111,110,101,32]++a7 id)
 |some r=>if r.conn==c then(s.say c ([103,111,110,101,32]++a7 id)).shut id else s.say c ([110,111,110,101,32]++a7 id)
theorem BQ{base x tb:Nat}{g:Gh}{cn:List (Int×Nat×Bs)}{s:St}{w:World}{F:Ft}{n:Nat}(T:Tabs base w)(h:(stA base x tb g cn s).holds w F)(hs:Sd n s)(hn:n<=16775000)(hb:Busy s (fun _=>False))(c id:Int)(hid:0<=id∧id<=999999):Calls prog 138 #[pt x,pt tb, .int .i64 c, .int .i64 id] w fun e w'=>e= .returned (.tuple #[])∧Goes (stA base x tb g cn (zb s c id)) w F w':=by
 have hz:=hs.sz;obtain⟨rm,c7,L1,lL⟩:=tY h hs.inv id (I6.of (by omega) (by omega));have gZ:=lL w (ar _ _);have JL: ∀b:Bs,b.length<=64-> ∀p∈ [Part.s b,Part.n id],p.ok:=fun b hl p hp=>by
  simp only[List.mem_cons,List.not_mem_nil,or_false]at hp;rcases hp with rfl|rfl
  ·exact Part.qD hl
  ·exact Part.xV (tL hid)
 have pJ:=hide (jD T h (by omega) c [.s [110,111,110,101], .n id] ([110,111,110,101,32]++a7 id) (Gs _) (by simp) (by simp) (JL _ (by decide)) 0);cases hq:s.req id with
 |none=>
  have es:zb s c id=s.say c ([110,111,110,101,32]++a7 id):=by unfold zb;rw[hq]
  rw[es];rw[hq]at gZ;clear T h hs lL hb JL;unfold pt at*;go_enter func138,ntmps138;go_wp2_with (first
   |(go_at_call 89;go_must(refine pJ.out.mono ?_;rintro e w5⟨rfl,fO⟩;have yu:=hide fO;clear fO)))
  (try simp only[Exit.inBlock,Exit.then])
  exact bodyPost_ret (results_none rfl _ _ _) rfl ⟨rfl,yu.out⟩
 |some q=>
  rw[hq]at gZ;obtain⟨_,_,_,_,RA⟩:=eZ h hs.inv (by omega) hq;have c1:=RA.conn;cases hc:(q.conn==c)with
  |false=>
   have es:zb s c id=s.say c ([110,111,110,101,32]++a7 id):=by unfold zb;rw[hq];dsimp only;rw[hc];rfl
   rw[es];clear T h hs lL hb JL RA;unfold pt at*;generalize g.rp id=rp at*;go_enter func138,ntmps138;go_wp2_with (first
    |(go_at_call 89;go_must(refine pJ.out.mono ?_;rintro e w5⟨rfl,fO⟩;have yu:=hide fO;clear fO)))
   (try simp only[Exit.inBlock,Exit.then])
   exact bodyPost_ret (results_none rfl _ _ _) rfl ⟨rfl,yu.out⟩
  |true=>
   have es:zb s c id=(s.say c ([103,111,110,101,32]++a7 id)).shut id:=by unfold zb;rw[hq];dsimp only;rw[hc];rfl
   rw[es];have yv:=hide (jD T h (by omega) c [.s [103,111,110,101], .n id] ([103,111,110,101,32]++a7 id) (Gq _) (by simp) (by simp) (JL _ (by decide)) 0);have jf:=hs.say c ([103,111,110,101,32]++a7 id);have EM:Hid (∀w5,Goes (stA base x tb g cn (s.say c ([103,111,110,101,32]++a7 id))) w F w5->Calls prog 81 #[pt x,pt tb,pt (g.rp id)] w5 fun e w7=>e= .returned (.tuple #[])∧Goes (stA base x tb g cn ((s.say c ([103,111,110,101,32]++a7 id)).shut id)) w F w7):=fun w5 g5=>by have T5:=T.goes (cr h) g5;obtain⟨F5,E9,o5,n5⟩:=g5;refine(pz T5 E9 jf (by omega) (id:=id) (q:=q) hq ((Busy.any hb _).say _ _)).mono ?_;rintro e w7⟨rfl,g7⟩;exact⟨rfl,ay o5 n5 g7⟩
   clear T h hs lL hb JL RA pJ;unfold pt at*;generalize g.rp id=rp at*;go_enter func138,ntmps138;go_wp2_with (first
    |(go_at_call 89;go_must(refine yv.out.mono ?_;rintro e w5⟨rfl,fO⟩;have HS5:=hide (EM.out _ fO);clear fO))
    |(go_at_call 81;go_must(refine HS5.out.mono ?_;rintro e w7⟨rfl,ik⟩;have yL:=hide ik;clear ik)))
   go_end0;exact⟨rfl,yL.out⟩
