import Derived.Test.YtffamlbkmjmipaaGreatDoorC21
set_option maxHeartbeats 8000000
set_option maxRecDepth 100000
namespace Go.Proofs.YtffamlbkmjmipaaGreatDoor
open _root_.Go.Proofs.Tryz
namespace Pj
open Go.RowKit aJ Mc
attribute [local go_sem] ae ag
section
variable{base x tb:Nat}{g:Gh}{cn:List (Int×Nat×Bs)}{s:St}{j:Js}{w w':World}{F:Ft}
theorem WY{j':Js}{s':St}{R:aJ}(T:Tabs base w)(hF: ∀k,F k->base<=k)(h1:Rel g j' s')(h2:Cw j')(h3:gO j'=cn)(h:Goes (aa (jA x g j') (aa (uQ tb s'.out) R)) w F w'):Goes (aa (stA base x tb g cn s') R) w F w':=by
 rw[<-bA]at h;obtain⟨F',h',o,n⟩:=h;refine⟨F', ?_,o,n⟩;obtain⟨G,H,ha,hb,d,e⟩:=h';refine⟨G,H,⟨j',h1,h2,h3,fun k hk=> ?_,ha⟩,hb,d,e⟩;rcases n k ((e k).2 (.inl hk))with e'|e'
 ·exact hF k e'
 ·exact ar T.1 e'
theorem Hd(h:Rel g j s)(hi:Inv s){a:At}(ha:a∈s.ah): ∃r∈j.reqs,∃t∈j.aQ,r.q.id=a.id∧s.req a.id=some r.q∧t.nm=r.q.ten∧s.ten a.id=t.nm∧r.al=s.nums a.id:=by obtain⟨q0,Aa,uZ,ux⟩:=St.cu (hi.bF a ha);rw[<-h.reqs]at uZ;obtain⟨r,hr,rfl⟩:=az.1 uZ;obtain⟨t,ht,et⟩:=az.1 (h.ten r.q (by rw[<-h.reqs];exact az.2 ⟨r,hr,rfl⟩));refine⟨r,hr,t,ht,ux,Aa,et, ?_,by rw[h.al r hr,ux]⟩;unfold St.ten;rw[Aa];exact et.symm
theorem mY{id n:Int}:n∈s.nums id↔ ∃a∈s.ah,a.id=id∧a.n=n:=by
 unfold St.nums;rw[az];constructor
 ·rintro⟨a,h,e⟩;rw[aL]at h;exact⟨a,h.1,by simpa using h.2,e⟩
 ·rintro⟨a,h,e1,e2⟩;exact⟨a,aL.2 ⟨h,by simpa using e1⟩,e2⟩
theorem zS(hi:Inv s){c:Int}(h:(s.aq.any fun x=>x.n==c &&x.drains && !x.gone)=true):s.drains c=true:=by
 obtain⟨y,hy,e⟩:=List.any_eq_true.1 h;simp only[bm,beq_iff_eq]at e;unfold St.drains;cases hf:s.aq.find? (·.n==c)with
 |none=>exact absurd e.1.1 (by simpa using List.find?_eq_none.1 hf y hy)
 |some z=>
  have hz:=cI hf;have ez:z.n=c:=by simpa using List.find?_some hf
  rw[bC (k:=fun x:Cn=>x.n) hi.cn hz hy (by rw[ez,e.1.1])];exact e.1.2
end
theorem ry{base x tb:Nat}{g:Gh}{cn:List (Int×Nat×Bs)}{s:St}{w:World}{F:Ft}(T:Tabs base w)(h:(stA base x tb g cn s).holds w F)(hi:Inv s)(ho:Ok s)(hz:s.sz<=16777000){i:Nat}{a:At}(ha:s.ah[i]?=some a):Calls prog 80 #[pt x,pt tb,pt (g.ap (key a))] w fun e w'=>e= .returned (.tuple #[])∧ ∃k,Goes (aa (stA base x tb g cn (s.aZ i)) (fH g a k)) w F w':=by
 obtain⟨j,r1,r2,r3,hF,hh⟩:=id h;have wf:=dJ r1 hi hz;have pE:a∈s.ah:=cJ ha;obtain⟨r,hr,t,ht,er,eq,et,zn,BO⟩:=Hd r1 hi pE;obtain⟨v,av,wv,Kl,hw⟩:=mj hh wf hr ht;obtain⟨kk,tE,lD⟩:=List.mem_iff_getElem.1 (r1.hp.symm.subset pE);have rG:=w_at hw kk tE;rw[lD]at rG;obtain⟨Gj,oh,_⟩:=aJ.left Kl;obtain⟨hpn,ZE⟩:=aa6 oh;have ca1:w.cell? ⟨g.ap (key a),1,none⟩=some (pt (g.rp r.q.id)):=by simp only[World.cell?,rG];rw[er];rfl
 have cr7:w.cell? ⟨g.rp r.q.id,7,none⟩=some av:=(Rw hw).1 7;obtain⟨G0,mv,yV⟩:=Q8 hw;obtain⟨ao,cap,rfl⟩:=aR (Goes.refl mv);have zv: ∀y∈r.al,∃b∈j.hp,key b=(r.q.id,y):=fun y hy=>by rw[BO]at hy;obtain⟨b,hb,e1,e2⟩:=mY.1 hy;exact⟨b,r1.hp.symm.subset hb,by unfold key;rw[e1,e2,er]⟩
 have BU:key a=(r.q.id,a.n):=by unfold key;rw[er]
 have hpa:a∈j.hp:=r1.hp.symm.subset pE;have LL:=woA _ r.al (fun n=>g.ap (r.q.id,n)) a.n w G0 mv (fun y hy e=>by
  obtain⟨b,hb,eb⟩:=zv y hy;have:b=a:=bC (k:=fun a=>g.ap (key a)) hpn hb hpa (by show g.ap (key b)=g.ap (key a);rw[eb,BU];exact e);rw[this,BU]at eb;exact(congrArg Prod.snd eb).symm) (fun y hy=>by
  obtain⟨b,hb,eb⟩:=zv y hy;show kg w (g.ap (r.q.id,y));rw[<-eb];exact ZE b hb) (by show kg w (g.ap (r.q.id,a.n));rw[<-BU];exact ZE a hpa) (by have:=wf.al r hr;omega)
 have Ro:=wf.b5 t ht;have yZ:=wf.b4;have RL:Hid (∀v1 w1,Goes (rowA 127 1 v1 (r.al.erase a.n).length ((r.al.erase a.n).map fun n=>pt (g.ap (r.q.id,n)))) w G0 w1->
   w1.cell? ⟨g.rp r.q.id,7,none⟩=some (.slice ao r.al.length cap)∧w1.frozen? ⟨g.rp r.q.id,7,none⟩=false∧
   (w1.setCell ⟨g.rp r.q.id,7,none⟩ v1).cell? ⟨g.rp r.q.id,2,none⟩=some (pt (g.tp t.nm))∧
   (w1.setCell ⟨g.rp r.q.id,7,none⟩ v1).cell? ⟨g.tp t.nm,2,none⟩=some (.int .i64 t.rn)∧
   (w1.setCell ⟨g.rp r.q.id,7,none⟩ v1).frozen? ⟨g.tp t.nm,2,none⟩=false∧
   ((w1.setCell ⟨g.rp r.q.id,7,none⟩ v1).setCell ⟨g.tp t.nm,2,none⟩ (.int .i64 (t.rn-1))).cell? ⟨g.ap (key a),6,none⟩=some (.int .i64 (kk:Int))∧
   Hid (Calls prog 126 #[vy x, .int .i64 (kk:Int)] ((w1.setCell ⟨g.rp r.q.id,7,none⟩ v1).setCell ⟨g.tp t.nm,2,none⟩ (.int .i64 (t.rn-1))).drew fun e w5=> ∃u,e= .returned u∧w5.cell? ⟨g.ap (key a),2,none⟩=some (.int .i64 a.conn)∧
    Hid (Calls prog 127 #[pt x,pt tb, .int .i64 a.conn] w5 fun e w'=>e= .returned (.tuple #[])∧ ∃k,Goes (aa (stA base x tb g cn (s.aZ i)) (fH g a k)) w F w'))):=fun v1 w1 hg=>by
  obtain⟨d1,d2,d3⟩:=yV _ v1 w1 hg;obtain⟨F2,gV,_⟩:=id d3;have q2:=(Rw gV).1 2;have t2:=(XY gV).1 2;have d4:=Ra d3 (t.rn-1);obtain⟨F3,mB,o3,n3⟩:=d4;have Y4:=w_at mB kk tE;rw[lD]at Y4;refine⟨d1,d2,by rw[q2,et];rfl,t2,(XY gV).2.1 2,by simp only[World.cell?,Y4];rfl, ?_⟩;obtain⟨G3,Ur,HL⟩:=abm (bI mB 1);show Calls _ _ _ _ _;refine(C8 x _ g _ j.hp kk _ G3 (by rfl) Ur tE r1.heap (by omega)).mono ?_;rintro e w5⟨u,ba,kt,k,rfl,dy,uv,kq⟩;rw[lD]at dy kq;have g5:=HL ba kt (fH g a k) w5 kq;have g6:=aC o3 n3 (df (q:=1) g5);obtain⟨F6,J3,o6,n6⟩:=id g6;have aaF:w5.heap[g.ap (key a)]?=some (.cells (mr g a k) 126 (0,0)):=by have:=aA J3 (show _=aa (fH g a k) (aa (dB x {j with hp:=ba} {v with lv:=kt}) (aa (dL g v.rv j.ring) (aa (dh g kt ba) (aa (hpA g ba) (aa (kd g j.c.re r.q v1) (aa (jh g v1 r.q.id (r.al.erase a.n)) (aa (kC g {t with rn:=t.rn-1} wv) (aa (jH g wv t.wt) (aa (jQ g j v r t) (uQ tb s.out))))))))))by unfold jW;ac_rfl);exact(cK this).1
  refine⟨u,rfl,by simp only[World.cell?,aaF];rfl, ?_⟩;have g7:=g6.eq (show _=jW x g {j with hp:=ba} {v with lv:=kt} r.q (r.al.erase a.n) {t with rn:=t.rn-1} v1 wv (aa (jQ g j v r t) (aa (uQ tb s.out) (fH g a k)))by rw[<-bA]);have g8:=w_shut (v:=v) (q:=r.q) (t':={t with rn:=t.rn-1}) {j with hp:=ba} {v with lv:=kt} wf hr ht rfl rfl rfl rfl rfl rfl rfl rfl rfl rfl rfl g7;have ej:Js.at2 {j with hp:=ba} r.q.id t.nm r.q (r.al.erase a.n) {t with rn:=t.rn-1}=j.ended a (s.ten a.id) ba:=by unfold Js.at2 Js.ended;rw[zn,<-er];rw[jd (k:=fun r:Rr=>r.q.id) wf.rid hr (fun r=>{r with al:=r.al.erase a.n}),jd (k:=fun t:Tr=>t.nm) wf.nX ht (fun t=>{t with rn:=t.rn-1})]
  rw[ej]at g8;have r8:=r1.ended ho ha ba dy uv;have cw8:Cw (j.ended a (s.ten a.id) ba):=⟨fun b hb=>r2.1 b (dy.subset (aV _ hb)),r2.2⟩;have g9:=WY (s':={s with ah:=s.ah.eraseIdx i}) T hF r8 cw8 r3 g8;have T5:Tabs base w5:=T.goes hF g9;obtain⟨F9,hF9,o9,n9⟩:=g9;have y7:Inv {s with ah:=s.ah.eraseIdx i}:=St.qZ hi _ (fun b hb=>hi.bF b (List.mem_of_mem_eraseIdx hb));have ja:({s with ah:=s.ah.eraseIdx i}:St).sz<=16777000:=by unfold St.sz at hz⊢;have:(s.ah.eraseIdx i).length<=s.ah.length:=List.length_eraseIdx_le ..;dsimp only;omega
  have zt:s.aZ i=({s with ah:=s.ah.eraseIdx i}:St).fp a.conn:=by unfold St.aZ;rw[ha]
  show Calls _ _ _ _ _;refine(gR (v:= .returned (.tuple #[])) hF9 fun G hG=>Ii T5 hG y7 ja a.conn (r2.1 a hpa) (fun hd _=> ?_) (fun he=>zS y7 he)).mono ?_
  ·have BQ:s.drains a.conn=true:=hd;unfold St.drains at BQ;cases hf:s.aq.find? (·.n==a.conn)with
   |none=>rw[hf]at BQ;cases BQ
   |some z=>
    rw[hf]at BQ;have hz:=cI hf;have ez:z.n=a.conn:=by simpa using List.find?_some hf
    have Zt:s.held a.conn≠0:=by unfold St.held;intro e0;have:=List.countP_eq_zero.1 e0 a pE;simp at this
    refine List.any_eq_true.2 ⟨z,hz, ?_⟩;have V4:z.gone=false:=by
     cases hgz:z.gone with
     |false=>rfl
     |true=>exact absurd ((ho.dr z hz BQ).1.1 hgz) (by rw[ez];exact Zt)
    simp only[bm,beq_iff_eq];exact⟨⟨ez,BQ⟩,by rw[V4];rfl⟩
  ·rintro e w'⟨rfl,jI⟩;rw[<-zt]at jI;exact⟨rfl,k,aC o9 n9 jI⟩
 have aah:Hid (Calls prog 125 #[.slice ao r.al.length cap,pt (g.ap (key a))] w fun e w'=> ∃v',e= .returned v'∧Goes (rowA 127 1 v' (r.al.erase a.n).length ((r.al.erase a.n).map fun n=>pt (g.ap (r.q.id,n)))) w G0 w'):=by show Calls _ _ _ _ _;rw[BU];exact LL
 clear h hh hw Kl rG oh hpn ZE mv yV zv BU hpa LL wf hr ht er eq et zn BO r1 r2 r3;unfold pt vy at*;generalize g.ap (key a)=ap at*;generalize g.rp r.q.id=rp at*;generalize g.tp t.nm=tp at*;generalize t.rn=rn at*;generalize r.al.length=nal at*;go_enter func80,ntmps80;go_wp2_with (first
  |(go_at_call 125;go_must(refine aah.out.mono ?_;rintro e w1⟨v1,rfl,hg⟩;obtain⟨iQ,lI,rfl⟩:=aR hg;obtain⟨d1,d2,d3,d4,d5,d6,aaf⟩:=RL.out _ w1 hg;clear hg RL)))
 go_region_with (first
   |(go_at_call 126;go_must(refine aaf.out.mono ?_;rintro e w5⟨u,rfl,d7,L4⟩)))
 all_goals
  go_wp2_with (first
   |(go_at_call 127;go_must(refine L4.out.mono ?_;rintro e w6⟨rfl,tD⟩;have RD:=hide tD;clear tD)))
  go_end0;exact⟨rfl,RD.out⟩
end Pj
namespace Pj
open Go.RowKit aJ Mc
attribute [local go_sem] ae ag
structure Sd(n:Nat)(s:St):Prop where
 inv:Inv s
 ok:Ok s
 sz:s.sz<=n
 bd:Bd 4398046511104 s
namespace Sd
variable{n m:Nat}{s:St}
theorem le(h:Sd n s)(hn:n<=m):Sd m s:=⟨h.inv,h.ok,ar h.sz hn,h.bd⟩
theorem say(h:Sd n s)(c:Int)(t:Bs):Sd (n+1) (s.say c t):=⟨St.bM h.inv c t,h.ok.say c t,by rw[St.fB];have:=h.sz;omega,h.bd.say c t⟩
theorem aZ(h:Sd (n+3) s){i:Nat}{a:At}(ha:s.ah[i]?=some a):Sd n (s.aZ i):=⟨St.bg h.inv i,h.ok.aZ h.inv i,by have:=St.lO ha;have:=h.sz;omega,h.bd.aZ i⟩
theorem Ir(h:Sd n s)(i:Nat):Sd n (s.aZ i):=⟨St.bg h.inv i,h.ok.aZ h.inv i,ar (St.ru i) h.sz,h.bd.aZ i⟩
end Sd
theorem WG{x P:Int}{q:Nat}(h1:0<=x∧x+q<=P)(hP:P<=4398046511104):0<=x∧x<=9223372036854775807:=by omega
theorem wF{x:Int}(h1:0<=x∧x<=999999):0<=x∧x<=9223372036854775807:=by omega
section
variable{base x tb:Nat}{g:Gh}{cn:List (Int×Nat×Bs)}{s:St}{j:Js}{w w':World}{F:Ft}
theorem Jt(h:(stA base x tb g cn s).holds w F)(hi:Inv s)(hz:s.sz<=16777000){a:At}(ha:a∈s.ah): ∃k:Nat,∃q:Rq,s.req a.id=some q∧q.id=a.id∧w.heap[g.ap (key a)]?=some (.cells (mr g a k) 126 (0,0))∧ ∃av,w.heap[g.rp a.id]?=some (.cells (ot g s.c.re q av) 132 (0,0)):=by obtain⟨j,r1,r2,r3,hF,hh⟩:=h;have wf:=dJ r1 hi hz;obtain⟨r,hr,t,ht,er,eq,et,zn,BO⟩:=Hd r1 hi ha;obtain⟨v,av,wv,Kl,hw⟩:=mj hh wf hr ht;obtain⟨kk,tE,lD⟩:=List.mem_iff_getElem.1 (r1.hp.symm.subset ha);have rG:=w_at hw kk tE;rw[lD]at rG;refine⟨kk,r.q,eq,er,rG,av, ?_⟩;have:=br (aA hw (show _=aa (kd g j.c.re r.q av) (aa (dB x j v) (aa (dL g v.rv j.ring) (aa (dh g v.lv j.hp) (aa (hpA g j.hp) (aa (jh g av r.q.id r.al) (aa (kC g t wv) (aa (jH g wv t.wt) (aa (jQ g j v r t) (uQ tb s.out)))))))))by unfold jW;ac_rfl));rw[<-er,<-r1.c];exact this.2.2
end
theorem jD{base x tb:Nat}{g:Gh}{cn:List (Int×Nat×Bs)}{s:St}{w:World}{F:Ft}(h:(stA base x tb g cn s).holds w F)(hi:Inv s)(hz:s.sz<=16777000){a:At}(ha:a∈s.ah):w.cell? ⟨g.ap (key a),0,none⟩=some (.int .i64 a.n)∧w.cell? ⟨g.ap (key a),1,none⟩=some (pt (g.rp a.id))∧w.cell? ⟨g.ap (key a),2,none⟩=some (.int .i64 a.conn)∧w.cell? ⟨g.rp a.id,0,none⟩=some (.int .i64 a.id):=by obtain⟨kk,q,_,GD,rG,av,LU⟩:=Jt h hi hz ha;exact⟨by simp only[World.cell?,rG];rfl,by simp only[World.cell?,rG];rfl,by simp only[World.cell?,rG];rfl,by simp only[World.cell?,LU];rw[<-GD];rfl⟩
theorem Le(id n:Int):said [.s [115,116,111,112], .n id, .n n]=St.aU id n:=by simp[said,Lib.join,Part.txt,St.aU]
theorem Ee{base x tb:Nat}{g:Gh}{cn:List (Int×Nat×Bs)}{s:St}{w:World}{F:Ft}{n:Nat}(T:Tabs base w)(h:(stA base x tb g cn s).holds w F)(hs:Sd n s)(hn:n<=16776000){i:Nat}{a:At}(ha:s.ah[i]?=some a):Calls prog 66 #[pt x,pt tb,pt (g.ap (key a))] w fun e w'=>e= .returned (.tuple #[])∧ ∃k,Goes (aa (stA base x tb g cn ((s.say a.conn (St.aU a.id a.n)).aZ i)) (fH g a k)) w F w':=by
 have pE:a∈s.ah:=cJ ha;have VI:=hs.bd.at' a pE;have hz:=hs.sz;obtain⟨ca0,ca1,ca2,cr0⟩:=jD h hs.inv (by omega) pE;have B6:Hid (∀w1,Goes (stA base x tb g cn (s.say a.conn (St.aU a.id a.n))) w F w1->w1.cell? ⟨g.ap (key a),0,none⟩=some (.int .i64 a.n)∧w1.cell? ⟨g.ap (key a),1,none⟩=some (pt (g.rp a.id))∧w1.cell? ⟨g.ap (key a),2,none⟩=some (.int .i64 a.conn)∧w1.cell? ⟨g.rp a.id,0,none⟩=some (.int .i64 a.id)):=fun w1 hg=>by obtain⟨F1,bU,_⟩:=hg;have jJ:=hs.say a.conn (St.aU a.id a.n);exact jD bU jJ.inv (by have:=jJ.sz;omega) (show a∈s.ah from pE)
 have Uh:=BF T h (by omega) a.conn [.s [115,116,111,112], .n a.id, .n a.n] (St.aU a.id a.n) (Le _ _) (by simp) (by simp) (by
  intro p hp;simp only[List.mem_cons,List.not_mem_nil,or_false]at hp;rcases hp with rfl|rfl|rfl
  ·exact Part.tO (by decide)
  ·exact Part.Bz (wF VI.id)
  ·exact Part.Bz (WG VI.n (Int.le_refl _)))
 have j8:=hide (Uh w.drew (au _ _).drew);have pK:Hid (∀w1,Goes (stA base x tb g cn (s.say a.conn (St.aU a.id a.n))) w F w1->Calls prog 80 #[pt x,pt tb,pt (g.ap (key a))] w1 fun e w'=>e= .returned (.tuple #[])∧ ∃k,Goes (aa (stA base x tb g cn ((s.say a.conn (St.aU a.id a.n)).aZ i)) (fH g a k)) w F w'):=fun w1 hg=>by have T1:=T.goes (cB h) hg;obtain⟨F1,bU,o1,n1⟩:=hg;have jJ:=hs.say a.conn (St.aU a.id a.n);refine(ry T1 bU jJ.inv jJ.ok (by have:=jJ.sz;omega) (i:=i) (a:=a) ha).mono ?_;rintro e w'⟨rfl,k,jI⟩;exact⟨rfl,k,aC o1 n1 jI⟩
 clear Uh h VI;unfold pt at*;generalize g.ap (key a)=ap at*;generalize g.rp a.id=rp at*;go_enter func66,ntmps66;go_wp2_with fail;go_region_held3 (fun w'=>w'.cell? ⟨ap,0,none⟩=some (.int .i64 a.n)∧w'.cell? ⟨ap,1,none⟩=some (.pointer (some ⟨rp,0,none⟩))∧w'.cell? ⟨ap,2,none⟩=some (.int .i64 a.conn)∧w'.cell? ⟨rp,0,none⟩=some (.int .i64 a.id)) (go_keep) (first
   |(go_at_call 89;go_must(refine j8.out.mono ?_;rintro e w5⟨rfl,kq⟩;obtain⟨z0,z1,z2,z3⟩:=B6.out _ kq;have HE5:=hide (pK.out _ kq);clear kq)))
 all_goals
  go_wp2_with (first
   |(go_at_call 80;go_must(refine HE5.out.mono ?_;rintro e w6⟨rfl,tD⟩;have RD:=hide tD;clear tD)))
  go_end0;exact⟨rfl,RD.out⟩
end Pj
namespace Pj
open Go.RowKit aJ Mc
attribute [local go_sem] ae ag
section
variable{base x tb:Nat}{g:Gh}{cn:List (Int×Nat×Bs)}{s:St}{j:Js}{w w':World}{F:Ft}
theorem gI(h:Rel g j s){id:Int}{q:Rq}(hq:s.req id=some q): ∃r∈j.reqs,∃t∈j.aQ,r.q=q∧q.id=id∧t.nm=q.ten∧s.ten id=t.nm∧r.al=s.nums id:=by
 have hm:=cI hq;have e:q.id=id:=by simpa using List.find?_some hq
 rw[<-h.reqs]at hm;obtain⟨r,hr,rfl⟩:=az.1 hm;obtain⟨t,ht,et⟩:=az.1 (h.ten r.q (by rw[<-h.reqs];exact az.2 ⟨r,hr,rfl⟩));refine⟨r,hr,t,ht,rfl,e,et, ?_,by rw[h.al r hr,e]⟩;unfold St.ten;rw[hq];exact et.symm
structure Yp(g:Gh)(x:Nat)(s:St)(id:Int)(q:Rq)(w:World)(ao:Option Addr)(cap:Nat)(dK:Option Addr)(cQ:Nat):Prop where
 ci:w.cell? ⟨g.rp id,0,none⟩=some (.int .i64 id)
 conn:w.cell? ⟨g.rp id,1,none⟩=some (.int .i64 q.conn)
 ten:w.cell? ⟨g.rp id,2,none⟩=some (pt (g.tp q.ten))
 txt:w.cell? ⟨g.rp id,3,none⟩=some (bs q.txt)
 abv:w.cell? ⟨g.rp id,4,none⟩=some (.int .i64 q.n)
 again:w.cell? ⟨g.rp id,5,none⟩=some (.int .i64 (s.c.re-q.left))
 hedged:w.cell? ⟨g.rp id,6,none⟩=some (.bool q.hedged)
 al:w.cell? ⟨g.rp id,7,none⟩=some (.slice ao (s.nums id).length cap)
 fz: ∀k,w.frozen? ⟨g.rp id,k,none⟩=false
 al0: ∀n l,s.nums id=n::l-> ∃b off,ao=some ⟨b,off,none⟩∧w.cell? ⟨b,off,none⟩=some (pt (g.ap (id,n)))
 nm:w.cell? ⟨g.tp q.ten,0,none⟩=some (bs q.ten)
 wt:w.cell? ⟨g.tp q.ten,1,none⟩=some (.slice dK (s.aS q.ten).length cQ)
 rn:w.cell? ⟨g.tp q.ten,2,none⟩=some (.int .i64 (s.runs q.ten))
 fzt: ∀k,w.frozen? ⟨g.tp q.ten,k,none⟩=false
 lt:g.rp id<w.heap.size∧g.tp q.ten<w.heap.size∧x<w.heap.size
 Co:(s.nums id).length<=16777210∧(s.aS q.ten).length<=16777210∧s.runs q.ten<=16777216
 cc:w.cell? ⟨x,1,none⟩=some (.int .i64 s.c.re)
theorem nT{e:TypeId}{v:Value}{n:Nat}{y:Value}{ys:List Value}{w:World}{F:Ft}(h:(rowA e 1 v n (y::ys)).holds w F)(hn:0<n): ∃b off cap,v= .slice (some ⟨b,off,none⟩) n cap∧w.cell? ⟨b,off,none⟩=some y:=by obtain⟨ao,cap,rfl,_,_,h4,_⟩:=bX h;obtain⟨b,off,rfl,_⟩:=h4 hn;refine⟨b,off,cap,rfl, ?_⟩;have:=bf h 0 (by omega);simpa using this
theorem fL(h:(stA base x tb g cn s).holds w F)(hi:Inv s)(hz:s.sz<=16777000){id:Int}{q:Rq}(hq:s.req id=some q): ∃ao cap dK cQ,Yp g x s id q w ao cap dK cQ:=by
 obtain⟨j,r1,r2,r3,hF,hh⟩:=h;have wf:=dJ r1 hi hz;obtain⟨r,hr,t,ht,er,ei,et,zn,BO⟩:=gI r1 hq;obtain⟨v,av,wv,Kl,hw⟩:=mj hh wf hr ht;have Q:=Rw hw;have TT:=XY hw;have D:=W7 hw;obtain⟨G0,mv,_⟩:=Q8 hw;obtain⟨ao,cap,rfl⟩:=aR (Goes.refl mv);have hWT: ∃G,(jH g wv t.wt).holds w G:=by have h2:=aA hw (show _=aa (jH g wv t.wt) (aa (dB x j v) (aa (dL g v.rv j.ring) (aa (dh g v.lv j.hp) (aa (hpA g j.hp) (aa (kd g j.c.re r.q (.slice ao r.al.length cap)) (aa (jh g (.slice ao r.al.length cap) r.q.id r.al) (aa (kC g t wv) (aa (jQ g j v r t) (uQ tb s.out)))))))))by unfold jW;ac_rfl);obtain⟨G,hG,_⟩:=aJ.left h2;exact⟨G,hG⟩
 obtain⟨G1,Ez⟩:=hWT;obtain⟨dK,cQ,rfl⟩:=aR (Goes.refl Ez);have Ro:=r1.rn t ht;have zb:=r1.wt t ht;have b1:=wf.b1 t ht;have b5:=wf.b5 t ht;have bal:=wf.al r hr;subst er;have lt1:g.rp id<w.heap.size:=by obtain⟨cs,tt,hb⟩:=Q.2.2;rw[ei]at hb;exact(cC.1 hb).1
 have lt2:g.tp r.q.ten<w.heap.size:=by obtain⟨cs,tt,hb⟩:=TT.2.2;rw[et]at hb;exact(cC.1 hb).1
 have lt3:x<w.heap.size:=by obtain⟨cs,tt,hb⟩:=D.2.2;exact(cC.1 hb).1
 rw[ei,BO]at Q;rw[et]at TT;rw[zb,et]at b1;have eb:t.rn=s.runs r.q.ten:=by rw[Ro,et]
 rw[eb]at b5;rw[BO]at bal mv;refine⟨ao,cap,dK,cQ,by rw[Q.1];show some (Value.int _ r.q.id)=_;rw[ei],Q.1 1,Q.1 2,Q.1 3,Q.1 4,by rw[Q.1];show some (Value.int _ (j.c.re-r.q.left))=_;rw[r1.c],Q.1 6,Q.1 7,Q.2.1,fun n l e=> ?_,by rw[TT.1];show some (bs t.nm)=_;rw[et],by rw[TT.1];show some (Value.slice dK t.wt.length cQ)=_;rw[zb,et],by rw[TT.1];show some (Value.int .i64 t.rn)=_;rw[eb],TT.2.1,⟨lt1,lt2,lt3⟩,⟨bal,b1,by omega⟩,by rw[D.1];show some (Value.int .i64 j.c.re)=_;rw[r1.c]⟩;unfold jh at mv;rw[e,List.map_cons]at mv;obtain⟨b,off,cp,e1,e2⟩:=nT mv (by simp);cases e1;exact⟨b,off,rfl,by rw[e2,ei]⟩
theorem Ta(T:Tabs base w)(h:(stA base x tb g cn s).holds w F)(hi:Inv s)(hz:s.sz<=16777000){id:Int}{q:Rq}(hq:s.req id=some q):Calls prog 74 #[pt x,pt (g.rp id)] w fun e w'=>e= .returned (.tuple #[])∧Goes (stA base x tb g cn (s.left id)) w F w':=by obtain⟨j,r1,r2,r3,hF,hh⟩:=h;have wf:=dJ r1 hi hz;obtain⟨r,hr,t,ht,er,ei,et,zn,BO⟩:=gI r1 hq;subst er;subst ei;refine(gR hh fun G hG=>Du x g j r t w G hG wf hr ht et).mono ?_;rintro e w'⟨rfl,hg⟩;exact⟨rfl,gj T hF (r1.left hi ht zn.symm) r2 r3 hg⟩
theorem sR(T:Tabs base w)(h:(stA base x tb g cn s).holds w F)(hi:Inv s)(hz:s.sz<=16777000){id:Int}{q:Rq}(hq:s.req id=some q):Calls prog 83 #[pt x,pt (g.rp id)] w fun e w'=>e= .returned (.tuple #[])∧Goes (stA base x tb g cn (s.aX id true)) w F w':=by
 obtain⟨j,r1,r2,r3,hF,hh⟩:=h;have wf:=dJ r1 hi hz;obtain⟨r,hr,t,ht,er,ei,et,zn,BO⟩:=gI r1 hq;subst er;subst ei;refine(gR hh fun G hG=>zH x g j r t w G hG wf hr ht et).mono ?_;rintro e w'⟨rfl,hg⟩;have eo:(s.aX r.q.id true).out=s.out:=by unfold St.aX;split<;>rfl
 exact⟨rfl,gj T hF (r1.wait hi ht zn.symm true) r2 r3 (by rw[eo];exact hg)⟩
theorem uS(T:Tabs base w)(h:(stA base x tb g cn s).holds w F)(hi:Inv s)(hz:s.sz<=16777000){id:Int}{q:Rq}(hq:s.req id=some q):Calls prog 70 #[pt x,pt (g.rp id)] w fun e w'=>e= .returned (.tuple #[])∧Goes (stA base x tb g cn (s.aX id false)) w F w':=by
 obtain⟨j,r1,r2,r3,hF,hh⟩:=h;have wf:=dJ r1 hi hz;obtain⟨r,hr,t,ht,er,ei,et,zn,BO⟩:=gI r1 hq;subst er;subst ei;refine(gR hh fun G hG=>BK x g j r t w G hG wf hr ht et).mono ?_;rintro e w'⟨rfl,hg⟩;have eo:(s.aX r.q.id false).out=s.out:=by unfold St.aX;split<;>rfl
 exact⟨rfl,gj T hF (r1.wait hi ht zn.symm false) r2 r3 (by rw[eo];exact hg)⟩
end
variable{g:Gh}{w:World}{F:Ft}
theorem UZ{t:Tr}{wv:Value}{Z:aJ}(h:(aa (kC g t wv) (aa (jH g wv t.wt) Z)).holds w F):(aa (fD g t) Z).holds w F:=by unfold fD;rw[bH];exact⟨wv,by show(aa (aa (kC g t wv) (jH g wv t.wt)) Z).holds w F;rw[bA];exact h⟩
theorem nD{A B:aJ}{w':World}(h:Goes (aa A B) w F w'):Goes B w F w':=(h.eq (bq _ _)).drop
theorem CO(l:List Rr)(id:Int):l.filter (fun r=>r.q.id !=id)=l.filter fun y=>decide (y.q.id≠id):=List.filter_congr fun y _=>by by_cases e:y.q.id=id<;>simp[e]
theorem Sq(l:List Tr)(nm:Bs):l.filter (fun t=>t.nm !=nm)=l.filter fun y=>decide (y.nm≠nm):=List.filter_congr fun y _=>by by_cases e:y.nm=nm<;>simp[e]
theorem Jm(g:Gh)(l:List Rr)(id:Int):(l.map fun r=>(r.q.id,g.rp r.q.id)).filter (fun x=>decide (x.1≠id))=(l.filter fun y=>decide (y.q.id≠id)).map fun r=>(r.q.id,g.rp r.q.id):=by rw[List.filter_map];rfl
theorem TW(g:Gh)(l:List Tr)(nm:Bs):(l.map fun t=>(t.nm,g.tp t.nm)).filter (fun x=>decide (x.1≠nm))=(l.filter fun y=>decide (y.nm≠nm)).map fun t=>(t.nm,g.tp t.nm):=by rw[List.filter_map];rfl
theorem Sl{base x tb:Nat}{cn:List (Int×Nat×Bs)}{s:St}(T:Tabs base w)(h:(stA base x tb g cn s).holds w F)(hi:Inv s)(hz:s.sz<=16777000){id:Int}{q:Rq}(hq:s.req id=some q)(ha: ∀a∈s.ah,a.id≠id)(zb:s.waits id=false)(hb:Busy s (fun x=>x=id))(hid:I6 id)(zx:q.ten.length<=64): ∃rm tm dK cQ w4,w.cell? ⟨x,7,none⟩=some (.map (some rm))∧w.cell? ⟨g.rp id,0,none⟩=some (.int .i64 id)∧(Builtin.delete_ #[82,3] 0 #[.map (some rm), .int .i64 id]).run prog w.drew= .ok (.tuple #[]) w4∧w4.cell? ⟨g.rp id,2,none⟩=some (pt (g.tp q.ten))∧w4.cell? ⟨g.tp q.ten,0,none⟩=some (bs q.ten)∧w4.cell? ⟨g.tp q.ten,1,none⟩=some (.slice dK (s.aS q.ten).length cQ)∧w4.cell? ⟨g.tp q.ten,2,none⟩=some (.int .i64 (s.runs q.ten))∧w4.cell? ⟨x,8,none⟩=some (.map (some tm))∧(¬(s.aS q.ten= []∧s.runs q.ten=0)->Goes (stA base x tb g cn {s with reqs:=dropFirst (·.id==id) s.reqs}) w F w4)∧((s.aS q.ten= []∧s.runs q.ten=0)-> ∃w5,(Builtin.delete_ #[83,9] 0 #[.map (some tm),bs q.ten]).run prog w4.drew= .ok (.tuple #[]) w5∧Goes (stA base x tb g cn {s with reqs:=dropFirst (·.id==id) s.reqs}) w F w5):=by
 obtain⟨ao,cap,dK,cQ,RA⟩:=fL h hi hz hq;obtain⟨j,r1,r2,r3,hF,hh⟩:=h;have wf:=dJ r1 hi hz;obtain⟨r,hr,t,ht,er,ei,et,zn,BO⟩:=gI r1 hq;subst er;subst ei;obtain⟨v,av,wv,Kl,hw⟩:=mj hh wf hr ht;have erw:=(r1.wt t ht);have ern:=(r1.rn t ht);rw[et]at erw ern;have hrel:=r1.dropped hi ha zb hb ht zn.symm;obtain⟨Z,hZ⟩: ∃Z:aJ,Z=aa (dB x j v) (aa (dL g v.rv j.ring) (aa (dh g v.lv j.hp) (aa (hpA g j.hp) (aa (iU v.cm j.bu) (aa (all gM j.bu) (aa (all (fc g j.c.re) (j.reqs.filter fun y=>decide (y.q.id≠r.q.id))) (aa (all (fD g) (j.aQ.filter fun y=>decide (y.nm≠t.nm))) (aa (gN v.pv j.pull) (uQ tb s.out))))))))):=⟨_,rfl⟩;have h1:=aA hw (show _=aa (ib g v.rm j.reqs) (aa (gK g v.tm j.aQ) (aa (kd g j.c.re r.q av) (aa (jh g av r.q.id r.al) (aa (kC g t wv) (aa (jH g wv t.wt) Z)))))by rw[hZ];unfold jW jQ;ac_rfl);obtain⟨G,H,Y2,bT,d1,e1⟩:=bI h1 1;obtain⟨w4,wD,uu⟩:=yq Y2 underlying82 0 r.q.id hid;have g4:=df (q:=1) (aO bT uu d1 e1);obtain⟨F4,zq,o4,n4⟩:=id g4;have B1:=br (aA zq (show _=aa (kd g j.c.re r.q av) (aa (mapA iW v.rm ((j.reqs.map fun r=>(r.q.id,g.rp r.q.id)).filter fun x=>decide (x.1≠r.q.id))) (aa (gK g v.tm j.aQ) (aa (jh g av r.q.id r.al) (aa (kC g t wv) (aa (jH g wv t.wt) Z)))))by ac_rfl));have B2:=br (aA zq (show _=aa (kC g t wv) (aa (mapA iW v.rm ((j.reqs.map fun r=>(r.q.id,g.rp r.q.id)).filter fun x=>decide (x.1≠r.q.id))) (aa (gK g v.tm j.aQ) (aa (kd g j.c.re r.q av) (aa (jh g av r.q.id r.al) (aa (jH g wv t.wt) Z)))))by ac_rfl));have B3:=br (aA zq (show _=aa (dB x j v) (aa (mapA iW v.rm ((j.reqs.map fun r=>(r.q.id,g.rp r.q.id)).filter fun x=>decide (x.1≠r.q.id))) (aa (gK g v.tm j.aQ) (aa (kd g j.c.re r.q av) (aa (jh g av r.q.id r.al) (aa (kC g t wv) (aa (jH g wv t.wt) (aa (dL g v.rv j.ring) (aa (dh g v.lv j.hp) (aa (hpA g j.hp) (aa (iU v.cm j.bu) (aa (all gM j.bu) (aa (all (fc g j.c.re) (j.reqs.filter fun y=>decide (y.q.id≠r.q.id))) (aa (all (fD g) (j.aQ.filter fun y=>decide (y.nm≠t.nm))) (aa (gN v.pv j.pull) (uQ tb s.out)))))))))))))))by rw[hZ];ac_rfl));rw[et]at B2;have Ez: ∃G,(jH g wv t.wt).holds w4 G:=by obtain⟨G,hG,_⟩:=aJ.left (aA zq (show _=aa (jH g wv t.wt) (aa (mapA iW v.rm ((j.reqs.map fun r=>(r.q.id,g.rp r.q.id)).filter fun x=>decide (x.1≠r.q.id))) (aa (gK g v.tm j.aQ) (aa (kd g j.c.re r.q av) (aa (jh g av r.q.id r.al) (aa (kC g t wv) Z)))))by ac_rfl));exact⟨G,hG⟩
 obtain⟨G1,Ez⟩:=Ez;obtain⟨fE,cT,rfl⟩:=aR (Goes.refl Ez);refine⟨v.rm,v.tm,fE,cT,w4,(W7 hw).1 7,RA.ci,wD,B1.1 2,by rw[B2.1 0];show some (bs t.nm)=_;rw[et],by rw[B2.1 1];show some (Value.slice fE t.wt.length cT)=_;rw[erw],by rw[B2.1 2];show some (Value.int .i64 t.rn)=_;rw[ern],B3.1 8,fun Ba=> ?_,fun Be=> ?_⟩
 ·refine gj (s':={s with reqs:=dropFirst (·.id==r.q.id) s.reqs}) T hF hrel r2 r3 ?_;have g5:=g4.eq (show _=aa (aa (kd g j.c.re r.q av) (jh g av r.q.id r.al)) (aa (kC g t (.slice fE t.wt.length cT)) (aa (jH g (.slice fE t.wt.length cT) t.wt) (aa (ib g v.rm (j.reqs.filter fun y=>decide (y.q.id≠r.q.id))) (aa (gK g v.tm j.aQ) Z))))by rw[Jm];unfold ib;ac_rfl);refine(nD g5).mono fun F' h'=> ?_;have h'':=UZ h';unfold jA;rw[bH];refine⟨v,aA h'' ?_⟩;unfold aW Js.dropped;rw[if_neg (by rw[erw,ern];intro e;exact Ba ⟨e.1,by have:=e.2;omega⟩)];dsimp only;rw[CO,ki (A:=fD g) (k:=fun t:Tr=>t.nm) wf.nX ht,hZ];show _=aa (aa (dB x j v) _) _
  ac_rfl
 ·have h5:=aA zq (show _=aa (gK g v.tm j.aQ) (aa (mapA iW v.rm ((j.reqs.map fun r=>(r.q.id,g.rp r.q.id)).filter fun x=>decide (x.1≠r.q.id))) (aa (kd g j.c.re r.q av) (aa (jh g av r.q.id r.al) (aa (kC g t (.slice fE t.wt.length cT)) (aa (jH g (.slice fE t.wt.length cT) t.wt) Z)))))by ac_rfl);obtain⟨G5,H5,ha5,IJ,d5,e5⟩:=bI h5 1;obtain⟨w5,Zi,kq⟩:=yq ha5 underlying83 0 r.q.ten (show r.q.ten.length<=maxLen by unfold maxLen;omega);refine⟨w5,Zi, ?_⟩;have g5:=aC o4 n4 (df (q:=1) (aO IJ kq d5 e5));refine gj (s':={s with reqs:=dropFirst (·.id==r.q.id) s.reqs}) T hF hrel r2 r3 ?_;have g6:=g5.eq (show _=aa (aa (kd g j.c.re r.q av) (aa (jh g av r.q.id r.al) (aa (kC g t (.slice fE t.wt.length cT)) (jH g (.slice fE t.wt.length cT) t.wt)))) (aa (ib g v.rm (j.reqs.filter fun y=>decide (y.q.id≠r.q.id))) (aa (gK g v.tm (j.aQ.filter fun y=>decide (y.nm≠r.q.ten))) Z))by rw[Jm,TW];unfold ib gK;ac_rfl);refine(nD g6).mono fun F' h'=> ?_;unfold jA;rw[bH];refine⟨v,aA h' ?_⟩;unfold aW Js.dropped;rw[if_pos (by rw[erw,ern];exact⟨Be.1,by have:=Be.2;omega⟩)];dsimp only;rw[CO,Sq,hZ,et];show _=aa (aa (dB x j v) _) _
  ac_rfl
variable{n i:Nat}{s:St}{a:At}
theorem I6.of{c:Int}(h1: -9223372036854775808<=c)(h2:c<=9223372036854775807):I6 c:=by unfold I6;simp only[Lit.wf,bm,decide_eq_true_eq];exact⟨h1,h2⟩
theorem Sd.stop(h:Sd n s)(c:Int)(t:Bs)(ha:s.ah[i]?=some a):Sd n ((s.say c t).aZ i):=by have h1:=h.say c t;refine⟨St.bg h1.inv i,h1.ok.aZ h1.inv i, ?_,h1.bd.aZ i⟩;have:=St.lO (s:=s.say c t) (i:=i) (a:=a) ha;have:=h1.sz;omega
theorem wk(ha:s.ah[i]?=some a):s.aZ i=({s with ah:=s.ah.eraseIdx i}:St).fp a.conn:=by unfold St.aZ;rw[ha]
theorem q8(s:St)(c:Int):(s.fp c).ah=s.ah∧(s.fp c).reqs=s.reqs∧(s.fp c).ring=s.ring∧(s.fp c).wait=s.wait∧(s.fp c).c=s.c∧(s.fp c).now=s.now:=by unfold St.fp;split<;>exact⟨rfl,rfl,rfl,rfl,rfl,rfl⟩
theorem KO(ho:Ok s)(ha:s.ah[i]?=some a)(id:Int):(s.aZ i).nums id=if id=a.id then(s.nums id).erase a.n else s.nums id:=by
 rw[wk ha];have:(({s with ah:=s.ah.eraseIdx i}:St).fp a.conn).nums id=({s with ah:=s.ah.eraseIdx i}:St).nums id:=by unfold St.nums;rw[(q8 _ _).1]
 rw[this];exact St.yz ho ha id
theorem mZ(i:Nat)(id:Int):(s.aZ i).req id=s.req id:=by
 unfold St.aZ;split
 ·unfold St.req;rw[(q8 _ _).2.1]
 ·rfl
theorem Busy.left{P:Int->Prop}(h:Busy s P)(id:Int)(hp:P id):Busy (s.left id) P:=fun r hr hn=>by
 rcases h r hr hn with h1|h1
 ·exact .inl ((St.ml r.id id).2 ⟨fun e=>hn (e▸hp),h1⟩)
 ·exact .inr h1
def Cf(rp:Nat)(w:World):Nat:=match w.cell? ⟨rp,7,none⟩with|some (.slice _ n _)=>n|_=>0
structure vI(base x tb:Nat)(g:Gh)(cn:List (Int×Nat×Bs))(n:Nat)(s:St)(id:Int)(q:Rq)(w:World)(F:Ft)(s':St)(wr:World):Prop where
 sd:Sd n s'
 busy:Busy s' (fun y=>y=id)
 req:s'.req id=some q
 goes:Goes (stA base x tb g cn s') w F wr
 done: ∃f,s'.ah.length<=f∧St.stops f s' id=St.stops s.ah.length s id
theorem sk{base x tb:Nat}{g:Gh}{cn:List (Int×Nat×Bs)}{w:World}{F:Ft}(T:Tabs base w)(h:(stA base x tb g cn s).holds w F)(hs:Sd n s)(hn:n<=16776000){id:Int}{q:Rq}(hq:s.req id=some q)(hb:Busy s (fun y=>y=id)):Calls prog 81 #[pt x,pt tb,pt (g.rp id)] w fun e w'=>e= .returned (.tuple #[])∧Goes (stA base x tb g cn (s.shut id)) w F w':=by
 have yV:Hid (vI base x tb g cn n s id q w F s w):=⟨hs,hb,hq,Goes.refl h,_,af _,rfl⟩;have hF:=cB h;have HT:=hide T;have HF:=hide hF;clear hs hb hq h T hF;unfold pt;go_enter func81,ntmps81;go_wp2;go_loopw [] (fun wr=> ∃s':St,Hid (vI base x tb g cn n s id q w F s' wr)) (fun wr=>Cf (g.rp id) wr)
 case atStart=>exact⟨s,yV⟩
 case round=>
  obtain⟨s',iC⟩:=hrel;obtain⟨F1,bU,o1,n1⟩:=iC.out.goes;have T1:=HT.out.goes HF.out iC.out.goes;have hz:=iC.out.sd.sz;obtain⟨ao,cap,dK,cQ,RA⟩:=fL bU iC.out.sd.inv (by omega) iC.out.req;have c7:=RA.al;have uU:Hid (Cf (g.rp id) wr=(s'.nums id).length):=by show(_=_);unfold Cf;rw[c7]
  have lC:=RA.Co.1;cases V5:s'.nums id with
  |nil=>
   have jJ:=iC.out.sd;have HLF:Hid (Calls prog 74 #[pt x,pt (g.rp id)] wr fun e w'=>e= .returned (.tuple #[])∧Goes (stA base x tb g cn (s'.left id)) w F w'):=by refine(Ta T1 bU jJ.inv (by omega) iC.out.req).mono ?_;rintro e w'⟨rfl,hg⟩;exact⟨rfl,aC o1 n1 hg⟩
   have ha0: ∀a∈s'.ah,a.id≠id:=fun a ha e=>by have:a.n∈s'.nums id:=mY.2 ⟨a,ha,e,rfl⟩;rw[V5]at this;cases this
   have IZ:s.shut id={s'.left id with reqs:=dropFirst (·.id==id) (s'.left id).reqs}:=by obtain⟨f,hf,e⟩:=iC.out.done;rw[St.Eg V5]at e;unfold St.shut;rw[<-e]
   have wE:=cI iC.out.req;have Uo:q.id=id:=by simpa using List.find?_some iC.out.req
   have my:=jJ.bd.rq q wE;have EN:Hid (∀w2,Goes (stA base x tb g cn (s'.left id)) w F w2->_):=fun w2 hg=>by
    have T2:=HT.out.goes HF.out hg;obtain⟨F2,gV,o2,n2⟩:=hg;have d:=Sl T2 gV (St.rO jJ.inv id) (show s'.sz<=16777000 by omega) (id:=id) (q:=q) iC.out.req ha0 (by rw[St.gm,St.ml];simp) (Busy.left iC.out.busy id rfl) (by have:=my.id;rw[Uo]at this;exact I6.of (by omega) (by omega)) my.ten;obtain⟨rm,tm,fE,cT,w4,p1,p2,p3,p4,p5,p6,p7,p8,p9,Z2⟩:=d;rw[<-IZ]at p9 Z2;exact(⟨rm,tm,fE,cT,w4,p1,p2,p3,p4,p5,p6,p7,p8,fun h=>aC o2 n2 (p9 h),fun h=>by obtain⟨w5,a1,a2⟩:=Z2 h;exact⟨w5,a1,aC o2 n2 a2⟩⟩: ∃rm tm fE cT w4,w2.cell? ⟨x,7,none⟩=some (.map (some rm))∧w2.cell? ⟨g.rp id,0,none⟩=some (.int .i64 id)∧
     (Builtin.delete_ #[82,3] 0 #[.map (some rm), .int .i64 id]).run prog w2.drew= .ok (.tuple #[]) w4∧
     w4.cell? ⟨g.rp id,2,none⟩=some (pt (g.tp q.ten))∧w4.cell? ⟨g.tp q.ten,0,none⟩=some (bs q.ten)∧w4.cell? ⟨g.tp q.ten,1,none⟩=some (.slice fE ((s'.left id).aS q.ten).length cT)∧w4.cell? ⟨g.tp q.ten,2,none⟩=some (.int .i64 ((s'.left id).runs q.ten))∧w4.cell? ⟨x,8,none⟩=some (.map (some tm))∧
     (¬((s'.left id).aS q.ten= []∧(s'.left id).runs q.ten=0)->Goes (stA base x tb g cn (s.shut id)) w F w4)∧
     (((s'.left id).aS q.ten= []∧(s'.left id).runs q.ten=0)-> ∃w5,(Builtin.delete_ #[83,9] 0 #[.map (some tm),bs q.ten]).run prog w4.drew= .ok (.tuple #[]) w5∧Goes (stA base x tb g cn (s.shut id)) w F w5))
   have aaX:=RA.Co;have qW:(s'.nums id).length=0:=by rw[V5];rfl
   rw[qW]at c7;clear iC bU o1 n1 RA yV HT HF jJ IZ my ha0;unfold pt bs at*;generalize g.rp id=rp at*;generalize g.tp q.ten=tp at*;go_wp2_with (first
    |(go_at_call 74;go_must(refine HLF.out.mono ?_;rintro e w2⟨rfl,hg⟩;obtain⟨rm,tm,fE,cT,w4,p1,p2,p3,p4,p5,p6,p7,p8,p9,Z2⟩:=EN.out w2 hg;have Yd:=hide p9;have RH:=hide Z2;clear p9 Z2 hg EN HLF)))
   have LU:=aaX;by_cases jo:(s'.left id).aS q.ten= []
   ·have BS:((s'.left id).aS q.ten).length=0:=by rw[jo];rfl
    rw[BS]at p6;by_cases V9:(s'.left id).runs q.ten=0
    ·obtain⟨w5,u1,u2⟩:=RH.out ⟨jo,V9⟩;have Yj:=hide u2;rw[V9]at p7;change _=some (Value.int .i64 0)at p7;clear Yd RH u2 jo V9 BS;go_region_with (fail)
     all_goals
      go_wp2;go_region_with (fail)
      all_goals go_end0;exact⟨rfl,Yj.out⟩
    ·have Yj:=hide (Yd.out (fun e=>V9 e.2));have Wa:(((((s'.left id).runs q.ten:Nat):Int))==0)=false:=by simpa using V9
     clear Yd RH jo BS;generalize(s'.left id).runs q.ten=rr at*;go_region_with (fail)
     all_goals go_wp2;go_end0;exact⟨rfl,Yj.out⟩
   ·have Yj:=hide (Yd.out (fun e=>jo e.1));have Wa:(((((s'.left id).aS q.ten).length:Nat):Int)==0)=false:=by
     have:((s'.left id).aS q.ten).length≠0:=fun e=>jo (List.eq_nil_of_length_eq_zero e);simpa using this
    clear Yd RH jo;generalize((s'.left id).aS q.ten).length=rr at*;go_region_with (fail)
    all_goals go_wp2;go_end0;exact⟨rfl,Yj.out⟩
  |cons n0 l=>
   obtain⟨i,a,uY,pY,CJ,Iq⟩:=St.KN V5;obtain⟨b,off,rfl,cb⟩:=RA.al0 n0 l V5;have BU:key a=(id,n0):=by unfold key;rw[CJ,Iq]
   have AD:Hid (Calls prog 66 #[pt x,pt tb,pt (g.ap (id,n0))] wr fun e w'=>e= .returned (.tuple #[])∧ ∃uM,vI base x tb g cn n s id q w F uM w'∧Cf (g.rp id) w'<(s'.nums id).length):=by
    show Calls _ _ _ _ _;rw[<-BU];refine(Ee T1 bU iC.out.sd (by omega) pY).mono ?_;rintro e w'⟨rfl,k,hg⟩;have jI:=aC o1 n1 hg.drop;rw[CJ]at jI;have uz:=iC.out.sd.stop a.conn (St.aU id a.n) pY;have Rp:((s'.say a.conn (St.aU id a.n)).aZ i).req id=some q:=by rw[mZ];exact iC.out.req
    refine⟨rfl,_,⟨uz, ?_,Rp,jI, ?_⟩, ?_⟩
    ·have:=Busy.aZ (i:=i) (a:=a) (iC.out.busy.say a.conn (St.aU id a.n)) pY;exact this.mono (fun y hy=>hy.elim (fun h=>h) (fun h=>h.trans CJ))
    ·obtain⟨f,hf,e⟩:=iC.out.done;have hlen:i<s'.ah.length:=(cz.1 pY).1;obtain⟨f',rfl⟩: ∃f',f=f'+1:=⟨f-1,by omega⟩;rw[St.Ho uY pY]at e;refine⟨f', ?_,e⟩;rw[wk (s:=s'.say a.conn (St.aU id a.n)) pY,(q8 _ _).1];show(s'.ah.eraseIdx i).length<=f';rw[List.length_eraseIdx_of_lt hlen];omega
    ·obtain⟨F3,mB,_⟩:=jI;obtain⟨fX,bP,_,_,RA'⟩:=fL mB uz.inv (by have:=uz.sz;omega) Rp;unfold Cf;rw[RA'.al];dsimp only;rw[KO (s:=s'.say a.conn (St.aU id a.n)) (iC.out.sd.ok.say _ _) pY,if_pos CJ.symm];have hm:a.n∈s'.nums id:=mY.2 ⟨a,cJ pY,CJ,rfl⟩;have h1:((s'.nums id).erase a.n).length=(s'.nums id).length-1:=List.length_erase_of_mem hm;have h2:=List.length_pos_of_mem hm;show((s'.nums id).erase a.n).length<_;omega
   have A9:(s'.nums id).length=l.length+1:=by rw[V5];rfl
   rw[A9]at c7 uU AD lC;have abr:(0:Int)<((l.length:Nat):Int)+1:=by omega
   clear iC bU o1 n1 RA yV HT HF;unfold pt at*;generalize g.rp id=rp at*;generalize g.ap (id,n0)=pa at*;generalize l.length=ln at*;go_wp2_with (first
    |(go_at_call 66;go_must(refine AD.out.mono ?_;rintro e w2⟨rfl,uM,IZ,UB⟩;have JA:=hide IZ;have Ya:=hide UB;clear IZ UB)))
   go_roundw
   case rel=>exact⟨uM,JA⟩
   case measure=>have:=Ya.out;have:=uU.out;omega
theorem upd_same{α κ:Type} [DecidableEq κ]{k:α->κ}{l:List α}(hn:(l.map k).Nodup){y:α}(hy:y∈l):upd k (k y) (fun _=>y) l=l:=by have:=jd hn hy (fun z=>z);rw[<-this];exact Q5 k (k y) l
theorem Qy{base x tb:Nat}{g:Gh}{cn:List (Int×Nat×Bs)}{s:St}{w:World}{F:Ft}(T:Tabs base w)(h:(stA base x tb g cn s).holds w F)(hi:Inv s)(hz:s.sz<=16777000){id:Int}{q:Rq}(hq:s.req id=some q)(f:Rq->Rq)(h1: ∀r,(f r).id=r.id)(h2: ∀r,(f r).ten=r.ten)(k:Nat)(u:Value)(he: ∀av,(ot g s.c.re q av).setIfInBounds k u=ot g s.c.re (f q) av):Goes (stA base x tb g cn (s.bj id f)) w F (w.setCell ⟨g.rp id,k,none⟩ u):=by
 obtain⟨j,r1,r2,r3,hF,hh⟩:=h;have wf:=dJ r1 hi hz;obtain⟨r,hr,t,ht,er,ei,et,zn,BO⟩:=gI r1 hq;subst er;subst ei;obtain⟨v,av,wv,Kl,hw⟩:=mj hh wf hr ht;have g1:=Q9 (Goes.refl hw) k u (f r.q) (by rw[r1.c];exact he av) (h1 _);have g2:=w_shut (v:=v) (q:=f r.q) (t':=t) j v wf hr ht (h1 _) rfl rfl rfl rfl rfl rfl rfl rfl rfl rfl g1;have ej:Js.at2 j r.q.id t.nm (f r.q) r.al t=j.TX r.q.id (fun r=>{r with q:=f r.q}):=by unfold Js.at2 Js.TX;rw[jd (k:=fun r:Rr=>r.q.id) wf.rid hr (fun r=>{r with q:=f r.q}),upd_same (k:=fun t:Tr=>t.nm) wf.nX ht]
 rw[ej]at g2;exact gj (s':=s.bj r.q.id f) T hF (r1.bj hi r.q.id f h1 h2) r2 r3 g2
section
variable{base x tb:Nat}{g:Gh}{cn:List (Int×Nat×Bs)}{s:St}{w:World}{F:Ft}
theorem Oa{κ:Type} [DecidableEq κ]{l:List κ}{x:κ}:decide (0<=Mr.ze (l.findIdx? fun y=>decide (y=x)))=decide (x∈l):=by
 cases hf:l.findIdx? fun y=>decide (y=x)with
 |none=>
  have:x∉l:=fun hm=>by have:=List.findIdx?_eq_none_iff.1 hf x hm;simp at this
  simp[Mr.ze,this]
 |some i=>
  obtain⟨h1,h2,_⟩:=List.findIdx?_eq_some_iff_getElem.1 hf;have hx:x∈l:=by
   have:l[i]=x:=by simpa using h2
   rw[<-this];exact bS h1
  have h0:0<=Mr.ze (some i):=by simp[Mr.ze]
  simp[hx,h0]
theorem YN{κ:Type} [DecidableEq κ](v:Value)(l:List κ)(f:κ->Nat)(x:κ)(w:World)(G:Ft)(h:(rowA 124 1 v l.length (l.map fun i=>pt (f i))).holds w G)(iE: ∀y∈l,f y=f x->y=x)(hb: ∀y∈l,kg w (f y))(hx:kg w (f x))(hl:l.length<=16777216):Calls prog 167 #[v,pt (f x)] w fun e w'=>e= .returned (.bool (decide (x∈l)))∧w'=w:=by
 have pL:=ixR v l f x w G h iE hb hx hl;have HE:=Oa (l:=l) (x:=x);obtain⟨ao,cap,rfl,_⟩:=Mr.cE h;rw[<-HE];clear h iE hb hx HE;generalize Mr.ze (l.findIdx? fun y=>decide (y=x))=ii at*;unfold pt at*;go_enter func167,ntmps167;go_wp2_with (first
  |(go_at_call 156;go_must(refine pL.mono ?_;rintro e w1⟨rfl,rfl⟩)))
 go_ret;exact⟨rfl,rfl⟩
theorem LD(h:(stA base x tb g cn s).holds w F)(hi:Inv s)(hz:s.sz<=16777000){id:Int}{q:Rq}(hq:s.req id=some q):Calls prog 128 #[pt (g.rp id)] w fun e w'=>e= .returned (.bool (s.waits id))∧w'=w:=by
 obtain⟨ao,cap,dK,cQ,RA⟩:=fL h hi hz hq;obtain⟨j,r1,r2,r3,hF,hh⟩:=h;have wf:=dJ r1 hi hz;obtain⟨r,hr,t,ht,er,ei,et,zn,BO⟩:=gI r1 hq;subst er;subst ei;obtain⟨v,av,wv,Kl,hw⟩:=mj hh wf hr ht;obtain⟨Gj,oh,_⟩:=aJ.left Kl;obtain⟨k1,k2,k3⟩:=Es oh wf hr ht;have hWT: ∃G,(jH g wv t.wt).holds w G:=by have h2:=aA hw (show _=aa (jH g wv t.wt) (aa (dB x j v) (aa (dL g v.rv j.ring) (aa (dh g v.lv j.hp) (aa (hpA g j.hp) (aa (kd g j.c.re r.q av) (aa (jh g av r.q.id r.al) (aa (kC g t wv) (aa (jQ g j v r t) (uQ tb s.out)))))))))by unfold jW;ac_rfl);obtain⟨G,hG,_⟩:=aJ.left h2;exact⟨G,hG⟩
 obtain⟨G1,Ez⟩:=hWT;have c1:w.cell? ⟨g.tp t.nm,1,none⟩=some wv:=(XY hw).1 1;have bT:=wf.b1 t ht;have HC:=YN wv t.wt g.rp r.q.id w G1 Ez k1 k2 k3 (by omega);have ew:decide (r.q.id∈t.wt)=s.waits r.q.id:=by
  have h1:=St.tZ hi (i:=r.q.id);rw[zn,<-r1.wt t ht]at h1;by_cases hm:r.q.id∈t.wt
  ·rw[h1.2 hm];simpa using hm
  ·have: ¬s.waits r.q.id=true:=fun e=>hm (h1.1 e);rw[Bool.not_eq_true]at this;rw[this];simpa using hm
 rw[ew]at HC;have c2:=RA.ten;rw[<-et]at c2;obtain⟨fE,cT,rfl⟩:=aR (Goes.refl Ez);clear hh Kl hw oh k1 k2 k3 Ez RA hq;unfold pt at*;generalize g.rp r.q.id=rp at*;generalize g.tp t.nm=tp at*;generalize t.wt.length=nw at*;generalize s.waits r.q.id=bw at*;go_enter func128,ntmps128;go_wp2_with (first
  |(go_at_call 167;go_must(refine HC.mono ?_;rintro e w1⟨rfl,rfl⟩)))
 go_ret;exact⟨rfl,rfl⟩
theorem FT(s:St)(id:Int):s.count id=(s.nums id).length:=by unfold St.count St.nums;rw[aF,List.countP_eq_length_filter]
theorem wA(h:(stA base x tb g cn s).holds w F)(hi:Inv s)(hz:s.sz<=16777000){id:Int}{q:Rq}(hq:s.req id=some q):Calls prog 82 #[pt (g.rp id)] w fun e w'=>e= .returned (.bool (s.waits id||decide (0<s.count id)))∧w'=w:=by
 obtain⟨ao,cap,dK,cQ,RA⟩:=fL h hi hz hq;have c7:=RA.al;have lC:=RA.Co.1;have HW:=LD h hi hz hq;rw[FT];clear RA h;unfold pt at*;generalize g.rp id=rp at*;generalize(s.nums id).length=nn at*;have V6:decide ((0:Int)<(nn:Int))=decide (0<nn):=by by_cases e:0<nn<;>simp[e]
 cases hw:s.waits id with
 |true=>
  rw[hw]at HW;go_enter func82,ntmps82;go_wp2_with (first
   |(go_at_call 128;go_must(refine HW.mono ?_;rintro e w1⟨rfl,rfl⟩)))
  go_ret;exact⟨rfl,rfl⟩
 |false=>
  rw[hw]at HW;go_enter func82,ntmps82;go_wp2_with (first
   |(go_at_call 128;go_must(refine HW.mono ?_;rintro e w1⟨rfl,rfl⟩)))
  go_ret;exact⟨by simp,rfl⟩
end
variable{base x tb n:Nat}{g:Gh}{cn:List (Int×Nat×Bs)}{s:St}{w:World}{F:Ft}
theorem kA(T:Tabs base w)(h:(stA base x tb g cn s).holds w F)(hz:s.sz<=16777000)(c:Int)(ps:List Part)(t:Bs)(ht:said ps=t)(ZC:0<ps.length)(hn:ps.length<=16)(BZ: ∀p∈ps,p.ok): ∀nq,Calls prog 89 #[pt tb, .int .i64 c, .slice (some ⟨w.heap.size,0,none⟩) ps.length ps.length] ((w.alloc (.cells (ps.map Part.val).toArray 20)).drewN nq) fun e w'=>e= .returned (.tuple #[])∧Goes (stA base x tb g cn (s.say c t)) w F w':=fun nq=>BF T h hz c ps t ht ZC hn BZ (w.drewN nq) (s8 (au _ _) nq)
theorem QH(id:Int):said [.s [101,114,114], .n id]= [101,114,114,32]++bZ id:=by simp[said,Lib.join,Part.txt]
theorem Sd.bj(h:Sd n s)(id:Int)(f:Rq->Rq)(h1: ∀r,(f r).id=r.id∧(f r).ten=r.ten)(h2: ∀r,r.n<=(f r).n)(h3: ∀r,(f r).hedged=false->r.hedged=false)(h4: ∀r,r∈s.reqs->(r.id==id)=true->(f r).ok 4398046511104 s.wait.length):Sd n (s.bj id f):=
 ⟨St.jC h.inv id f h1,h.ok.bj id f (fun r=>(h1 r).1) h2 h3,by rw[St.nW];exact h.sz,h.bd.bj id f h4⟩
theorem zJ(T:Tabs base w)(h:(stA base x tb g cn s).holds w F)(hs:Sd n s)(hn:n<=16775000){id:Int}{q:Rq}(hq:s.req id=some q)(hb:Busy s (fun y=>y=id)):Calls prog 67 #[pt x,pt tb,pt (g.rp id)] w fun e w'=>e= .returned (.tuple #[])∧Goes (stA base x tb g cn (s.again id true)) w F w':=by
 have hz:=hs.sz;have BN:=wA h hs.inv (by omega) hq;have wE:=cI hq;have Uo:q.id=id:=by simpa using List.find?_some hq
 have my:=hs.bd.rq q wE;have abq:=my.left;have hre:=hs.bd.c.re;have Ew:=hide (Goes.refl h);cases bE:(s.waits id||decide (0<s.count id))with
 |true=>
  have ea:s.again id true=s:=by unfold St.again;rw[if_pos];simpa using bE
  rw[ea];rw[bE]at BN;clear h;unfold pt at*;generalize g.rp id=rp at*;go_enter func67,ntmps67;go_wp2_with (first
   |(go_at_call 82;go_must(refine BN.mono ?_;rintro e w1⟨rfl,rfl⟩)))
  go_end0;exact⟨rfl,Ew.out⟩
 |false=>
  rw[bE]at BN;obtain⟨ao,cap,dK,cQ,RA⟩:=fL h hs.inv (by omega) hq;have c5:=RA.again;have cc:=RA.cc;have c0:=RA.ci;have c1:=RA.conn;have fz:=RA.fz 5;have V4: ¬((s.waits id||decide (0<s.count id))=true):=by rw[bE];simp
  by_cases hl:q.left=0
  ·have ea:s.again id true=(s.say q.conn ([101,114,114,32]++bZ id)).shut id:=by
    unfold St.again;rw[if_neg (by simpa using V4),hq];simp[hl]
   rw[ea];have jJ:=hs.say q.conn ([101,114,114,32]++bZ id);have uZ:(s.say q.conn ([101,114,114,32]++bZ id)).req id=some q:=hq;have j8:=hide (kA T h (by omega) q.conn [.s [101,114,114], .n id] ([101,114,114,32]++bZ id) (QH _) (by simp) (by simp) (by
    intro p hp;simp only[List.mem_cons,List.not_mem_nil,or_false]at hp;rcases hp with rfl|rfl
    ·exact Part.tO (by decide)
    ·exact Part.Bz (wF (by rw[<-Uo];exact my.id))))
   have AD:Hid (∀w1,Goes (stA base x tb g cn (s.say q.conn ([101,114,114,32]++bZ id))) w F w1->w1.cell? ⟨g.rp id,0,none⟩=some (.int .i64 id)∧w1.cell? ⟨g.rp id,1,none⟩=some (.int .i64 q.conn)∧
     Calls prog 81 #[pt x,pt tb,pt (g.rp id)] w1 fun e w'=>e= .returned (.tuple #[])∧Goes (stA base x tb g cn ((s.say q.conn ([101,114,114,32]++bZ id)).shut id)) w F w'):=fun w1 hg=>by
    have T1:=T.goes (cB h) hg;obtain⟨F1,bU,o1,n1⟩:=hg;obtain⟨_,_,_,_,RA1⟩:=fL bU jJ.inv (by have:=jJ.sz;omega) uZ;refine⟨RA1.ci,RA1.conn,(sk T1 bU jJ (by omega) uZ (hb.say _ _)).mono ?_⟩;rintro e w'⟨rfl,jI⟩;exact⟨rfl,aC o1 n1 jI⟩
   rw[hl,Int.sub_zero]at c5;clear h RA Ew my V4 hb;unfold pt at*;generalize g.rp id=rp at*;generalize s.c.re=re at*;go_enter func67,ntmps67;go_wp2_with (first
    |(go_at_call 82;go_must(refine BN.mono ?_;rintro e w1⟨rfl,rfl⟩)))
   go_quiet (fail)
   go_wp2_with fail;go_region_held3 (fun w'=>w'.cell? ⟨rp,0,none⟩=some (.int .i64 id)∧w'.cell? ⟨rp,1,none⟩=some (.int .i64 q.conn)) (go_keep) (first
    |(go_at_call 89;go_must(refine(j8.out _).mono ?_;rintro e w5⟨rfl,kq⟩;obtain⟨z0,z1,z2⟩:=AD.out _ kq;have HZ2:=hide z2;clear kq z2)))
   all_goals
    go_wp2_with (first
     |(go_at_call 81;go_must(refine HZ2.out.mono ?_;rintro e w6⟨rfl,tD⟩;have RD:=hide tD;clear tD)))
    go_end0;exact⟨rfl,RD.out⟩
  ·have ea:s.again id true=(s.bj id (fun r=>{r with left:=r.left-1})).aX id true:=by
    unfold St.again;rw[if_neg (by simpa using V4),hq];simp[hl]
   rw[ea];have jJ:Sd n (s.bj id (fun r=>{r with left:=r.left-1})):=hs.bj id _ (fun _=>⟨rfl,rfl⟩) (fun _=>Int.le_refl _) (fun _ h=>h) (fun r hr e=>by have:r=q:=Bd.QB hs.inv hq hr e;subst this;exact⟨my.id,my.n,by show 0<=r.left-1∧r.left-1<=5;omega,my.ten,my.txt⟩)
   have uZ:(s.bj id (fun r=>{r with left:=r.left-1})).req id=some {q with left:=q.left-1}:=by rw[St.jz hs.inv id id (fun r=>{r with left:=r.left-1}) (fun _=>rfl),hq];simp
   have HP:Hid (∀nq,Calls prog 83 #[pt x,pt (g.rp id)] ((w.setCell ⟨g.rp id,5,none⟩ (.int .i64 (s.c.re-q.left+1))).drewN nq) fun e w'=>e= .returned (.tuple #[])∧Goes (stA base x tb g cn ((s.bj id (fun r=>{r with left:=r.left-1})).aX id true)) w F w'):=fun nq=>by
    have hg:=Qy T h hs.inv (by omega) hq (fun r=>{r with left:=r.left-1}) (fun _=>rfl) (fun _=>rfl) 5 (.int .i64 (s.c.re-q.left+1)) (fun av=>by
     have e1:s.c.re-(q.left-1)=s.c.re-q.left+1:=by omega
     unfold ot;dsimp only;rw[e1];rfl)
    have hg:=hg.drewN nq;have T1:=T.goes (cB h) hg;obtain⟨F1,bU,o1,n1⟩:=hg;refine(sR T1 bU jJ.inv (by have:=jJ.sz;omega) uZ).mono ?_;rintro e w'⟨rfl,jI⟩;exact⟨rfl,aC o1 n1 jI⟩
   have LR:decide (s.c.re<=s.c.re-q.left)=false:=by simp;omega
   clear h RA Ew my V4 hb;have hlb:1<=q.left:=by omega
   unfold pt at*;generalize g.rp id=rp at*;generalize s.c.re=re at*;generalize q.left=ql at*;go_enter func67,ntmps67;go_wp2_with (first
    |(go_at_call 82;go_must(refine BN.mono ?_;rintro e w1⟨rfl,rfl⟩)))
   go_quiet (fail)
   go_wp2_with (first
    |(go_at_call 83;go_must(refine(HP.out _).mono ?_;rintro e w6⟨rfl,tD⟩;have RD:=hide tD;clear tD)))
   go_end0;exact⟨rfl,RD.out⟩
end Pj
namespace Pj
open Go.RowKit aJ Mc
variable{g:Gh}{k y:Int×Int}{p:Nat}{sr:Int}
def Gh.new(g:Gh)(k:Int×Int)(p:Nat)(sr:Int):Gh:={g with ap:=fun y=>if y=k then p else g.ap y,sr:=fun y=>if y=k then sr else g.sr y}
theorem Gh.WD(g:Gh)(k:Int×Int)(p:Nat)(sr:Int):(g.new k p sr).ap k=p:=by simp[Gh.new]
theorem Gh.Qd(g:Gh)(k:Int×Int)(p:Nat)(sr:Int):(g.new k p sr).sr k=sr:=by simp[Gh.new]
theorem Gh.Bw(h:y≠k):(g.new k p sr).ap y=g.ap y:=by simp[Gh.new,h]
theorem Gh.vA(h:y≠k):(g.new k p sr).sr y=g.sr y:=by simp[Gh.new,h]
theorem KB(x:Nat)(g:Gh)(j:Js)(v:Dv)(k:Int×Int)(p:Nat)(sr:Int)(h1: ∀b∈j.hp,key b≠k)(h2: ∀y∈j.reqs,∀n∈y.al,(y.q.id,n)≠k):aW x (g.new k p sr) j v=aW x g j v:=by
 have e1:all (fc (g.new k p sr) j.c.re) j.reqs=all (fc g j.c.re) j.reqs:=all_congr fun y hy=>by
  unfold fc;congr 1;funext av;have:jh (g.new k p sr) av y.q.id y.al=jh g av y.q.id y.al:=by unfold jh;congr 1;exact bz fun n hn=>by rw[Gh.Bw (h2 y hy n hn)]
  rw[this];rfl
 have e2:dh (g.new k p sr) v.lv j.hp=dh g v.lv j.hp:=by unfold dh;congr 1;exact bz fun b hb=>by rw[Gh.Bw (h1 b hb)]
 have e3:hpA (g.new k p sr) j.hp=hpA g j.hp:=all_congr fun y hy=>by
  have hb:y.1∈j.hp:=by obtain⟨b,i⟩:=y;have:=List.mem_zipIdx_iff_getElem?.1 hy;exact cJ this
  show fH _ _ _=fH _ _ _;unfold fH mr;rw[Gh.Bw (h1 _ hb),Gh.vA (h1 _ hb)];rfl
 unfold aW;rw[e1,e2,e3];rfl
theorem Wp(x:Nat)(g:Gh)(j:Js)(k:Int×Int)(p:Nat)(sr:Int)(h1: ∀b∈j.hp,key b≠k)(h2: ∀y∈j.reqs,∀n∈y.al,(y.q.id,n)≠k):jA x (g.new k p sr) j=jA x g j:=by unfold jA;congr 1;funext v;exact KB x g j v k p sr h1 h2
theorem NG{hp:List At}{n:Nat}(h1: ∀b∈hp,key b≠k)(h:Hp.Heap (fJ g) hp n):Hp.Heap (fJ (g.new k p sr)) hp n:=by intro i h0 hn;intro a b ha hb;have h3:=h i h0 hn a b ha hb;have e1:=h1 a (cJ ha);have e2:=h1 b (cJ hb);unfold fJ at h3⊢;rw[Gh.vA e1,Gh.vA e2];exact h3
