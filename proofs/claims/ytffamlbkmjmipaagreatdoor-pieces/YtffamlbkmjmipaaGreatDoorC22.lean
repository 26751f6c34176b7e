import Derived.Test.YtffamlbkmjmipaaGreatDoorC21
set_option maxHeartbeats 8000000
set_option maxRecDepth 100000
namespace Go.Proofs.YtffamlbkmjmipaaGreatDoor
open _root_.Go.Proofs.Tryz
namespace Pj
open Go.RowKit aD Mc
attribute [local go_sem] ae ah
section
variable{base x tb:Nat}{g:Gh}{cn:List (Int×Nat×Bs)}{s:St}{j:Js}{w w':World}{F:Ft}
theorem Rf{j':Js}{s':St}{R:aD}(T:Tabs base w)(hF: ∀k,F k->base<=k)(h1:Rel g j' s')(h2:Cw j')(h3:gu j'=cn)(h:Goes (aa (jA x g j') (aa (rC tb s'.out) R)) w F w'):Goes (aa (stA base x tb g cn s') R) w F w':=by
 rw[<-bn]at h;obtain⟨F',h',o,n⟩:=h;refine⟨F', ?_,o,n⟩;obtain⟨G,H,ha,hb,d,e⟩:=h';refine⟨G,H,⟨j',h1,h2,h3,fun k hk=> ?_,ha⟩,hb,d,e⟩;rcases n k ((e k).2 (.inl hk))with e'|e'
 ·exact hF k e'
 ·exact au T.1 e'
theorem CW(h:Rel g j s)(hi:Inv s){a:At}(ha:a∈s.ag): ∃r∈j.reqs,∃t∈j.aI,r.q.id=a.id∧s.req a.id=some r.q∧t.nm=r.q.ten∧s.ten a.id=t.nm∧r.al=s.nums a.id:=by obtain⟨q0,wj,uJ,tJ⟩:=St.cf (hi.bB a ha);rw[<-h.reqs]at uJ;obtain⟨r,hr,rfl⟩:=ax.1 uJ;obtain⟨t,ht,et⟩:=ax.1 (h.ten r.q (by rw[<-h.reqs];exact ax.2 ⟨r,hr,rfl⟩));refine⟨r,hr,t,ht,tJ,wj,et, ?_,by rw[h.al r hr,tJ]⟩;unfold St.ten;rw[wj];exact et.symm
theorem ly{id n:Int}:n∈s.nums id↔ ∃a∈s.ag,a.id=id∧a.n=n:=by
 unfold St.nums;rw[ax];constructor
 ·rintro⟨a,h,e⟩;rw[aG]at h;exact⟨a,h.1,by simpa using h.2,e⟩
 ·rintro⟨a,h,e1,e2⟩;exact⟨a,aG.2 ⟨h,by simpa using e1⟩,e2⟩
theorem vQ(hi:Inv s){c:Int}(h:(s.ak.any fun x=>x.n==c &&x.drains && !x.gone)=true):s.drains c=true:=by
 obtain⟨y,hy,e⟩:=List.any_eq_true.1 h;simp only[a8,beq_iff_eq]at e;unfold St.drains;cases hf:s.ak.find? (·.n==c)with
 |none=>exact absurd e.1.1 (by simpa using List.find?_eq_none.1 hf y hy)
 |some z=>
  have hz:=cO hf;have ez:z.n=c:=by simpa using List.find?_some hf
  rw[bC (k:=fun x:Cn=>x.n) hi.cn hz hy (by rw[ez,e.1.1])];exact e.1.2
end
theorem ox{base x tb:Nat}{g:Gh}{cn:List (Int×Nat×Bs)}{s:St}{w:World}{F:Ft}(T:Tabs base w)(h:(stA base x tb g cn s).holds w F)(hi:Inv s)(ho:Ok s)(hz:s.sz<=16777000){i:Nat}{a:At}(ha:s.ag[i]?=some a):Calls prog 80 #[pt x,pt tb,pt (g.ap (key a))] w fun e w'=>e= .returned (.tuple #[])∧ ∃k,Goes (aa (stA base x tb g cn (s.aU i)) (eN g a k)) w F w':=by
 obtain⟨j,r1,r2,r3,hF,hh⟩:=id h;have wf:=dD r1 hi hz;have mM:a∈s.ag:=cK ha;obtain⟨r,hr,t,ht,er,eq,et,uY,yw⟩:=CW r1 hi mM;obtain⟨v,av,wv,Fs,hw⟩:=kK hh wf hr ht;obtain⟨kk,ny,kh⟩:=List.mem_iff_getElem.1 (r1.hp.symm.subset mM);have qi:=w_at hw kk ny;rw[kh]at qi;obtain⟨Gj,mz,_⟩:=aD.left Fs;obtain⟨Vx,Ui⟩:=XY mz;have Wm:w.cell? ⟨g.ap (key a),1,none⟩=some (pt (g.rp r.q.id)):=by simp only[World.cell?,qi];rw[er];rfl
 have cr7:w.cell? ⟨g.rp r.q.id,7,none⟩=some av:=(L4 hw).1 7;obtain⟨G0,kP,uG⟩:=LG hw;obtain⟨ao,cap,rfl⟩:=aJ (Goes.refl kP);have Fx: ∀y∈r.al,∃b∈j.hp,key b=(r.q.id,y):=fun y hy=>by rw[yw]at hy;obtain⟨b,hb,e1,e2⟩:=ly.1 hy;exact⟨b,r1.hp.symm.subset hb,by unfold key;rw[e1,e2,er]⟩
 have yA:key a=(r.q.id,a.n):=by unfold key;rw[er]
 have Vw:a∈j.hp:=r1.hp.symm.subset mM;have Hg:=woA _ r.al (fun n=>g.ap (r.q.id,n)) a.n w G0 kP (fun y hy e=>by
  obtain⟨b,hb,eb⟩:=Fx y hy;have:b=a:=bC (k:=fun a=>g.ap (key a)) Vx hb Vw (by show g.ap (key b)=g.ap (key a);rw[eb,yA];exact e);rw[this,yA]at eb;exact(congrArg Prod.snd eb).symm) (fun y hy=>by
  obtain⟨b,hb,eb⟩:=Fx y hy;show jk w (g.ap (r.q.id,y));rw[<-eb];exact Ui b hb) (by show jk w (g.ap (r.q.id,a.n));rw[<-yA];exact Ui a Vw) (by have:=wf.al r hr;omega)
 have LV:=wf.b5 t ht;have kQ:=wf.b4;have pR:Hid (∀v1 w1,Goes (rowA 127 1 v1 (r.al.erase a.n).length ((r.al.erase a.n).map fun n=>pt (g.ap (r.q.id,n)))) w G0 w1->
   w1.cell? ⟨g.rp r.q.id,7,none⟩=some (.slice ao r.al.length cap)∧w1.frozen? ⟨g.rp r.q.id,7,none⟩=false∧
   (w1.setCell ⟨g.rp r.q.id,7,none⟩ v1).cell? ⟨g.rp r.q.id,2,none⟩=some (pt (g.tp t.nm))∧
   (w1.setCell ⟨g.rp r.q.id,7,none⟩ v1).cell? ⟨g.tp t.nm,2,none⟩=some (.int .i64 t.rn)∧
   (w1.setCell ⟨g.rp r.q.id,7,none⟩ v1).frozen? ⟨g.tp t.nm,2,none⟩=false∧
   ((w1.setCell ⟨g.rp r.q.id,7,none⟩ v1).setCell ⟨g.tp t.nm,2,none⟩ (.int .i64 (t.rn-1))).cell? ⟨g.ap (key a),6,none⟩=some (.int .i64 (kk:Int))∧
   Hid (Calls prog 126 #[sf x, .int .i64 (kk:Int)] ((w1.setCell ⟨g.rp r.q.id,7,none⟩ v1).setCell ⟨g.tp t.nm,2,none⟩ (.int .i64 (t.rn-1))).drew fun e w5=> ∃u,e= .returned u∧w5.cell? ⟨g.ap (key a),2,none⟩=some (.int .i64 a.conn)∧
    Hid (Calls prog 127 #[pt x,pt tb, .int .i64 a.conn] w5 fun e w'=>e= .returned (.tuple #[])∧ ∃k,Goes (aa (stA base x tb g cn (s.aU i)) (eN g a k)) w F w'))):=fun v1 w1 hg=>by
  obtain⟨d1,d2,d3⟩:=uG _ v1 w1 hg;obtain⟨F2,gl,_⟩:=id d3;have q2:=(L4 gl).1 2;have t2:=(R6 gl).1 2;have d4:=LI d3 (t.rn-1);obtain⟨F3,kT,o3,n3⟩:=d4;have Tk:=w_at kT kk ny;rw[kh]at Tk;refine⟨d1,d2,by rw[q2,et];rfl,t2,(R6 gl).2.1 2,by simp only[World.cell?,Tk];rfl, ?_⟩;obtain⟨G3,LP,HL⟩:=Yv (bI kT 1);show Calls _ _ _ _ _;refine(zS x _ g _ j.hp kk _ G3 (by rfl) LP ny r1.heap (by omega)).mono ?_;rintro e w5⟨u,aX,jw,k,rfl,dA,qY,fO⟩;rw[kh]at dA fO;have g5:=HL aX jw (eN g a k) w5 fO;have g6:=ay o3 n3 (cX (q:=1) g5);obtain⟨F6,Fa,o6,n6⟩:=id g6;have WY:w5.heap[g.ap (key a)]?=some (.cells (kO g a k) 126 (0,0)):=by have:=aw Fa (show _=aa (eN g a k) (aa (dB x {j with hp:=aX} {v with lv:=jw}) (aa (dF g v.rv j.ring) (aa (dm g jw aX) (aa (hpA g aX) (aa (ji g j.c.re r.q v1) (aa (iM g v1 r.q.id (r.al.erase a.n)) (aa (jF g {t with rn:=t.rn-1} wv) (aa (je g wv t.wt) (aa (jQ g j v r t) (rC tb s.out))))))))))by unfold jW;ac_rfl);exact(bQ this).1
  refine⟨u,rfl,by simp only[World.cell?,WY];rfl, ?_⟩;have g7:=g6.eq (show _=jW x g {j with hp:=aX} {v with lv:=jw} r.q (r.al.erase a.n) {t with rn:=t.rn-1} v1 wv (aa (jQ g j v r t) (aa (rC tb s.out) (eN g a k)))by rw[<-bn]);have g8:=w_shut (v:=v) (q:=r.q) (t':={t with rn:=t.rn-1}) {j with hp:=aX} {v with lv:=jw} wf hr ht rfl rfl rfl rfl rfl rfl rfl rfl rfl rfl rfl g7;have ej:Js.at2 {j with hp:=aX} r.q.id t.nm r.q (r.al.erase a.n) {t with rn:=t.rn-1}=j.ended a (s.ten a.id) aX:=by unfold Js.at2 Js.ended;rw[uY,<-er];rw[iJ (k:=fun r:Rr=>r.q.id) wf.rid hr (fun r=>{r with al:=r.al.erase a.n}),iJ (k:=fun t:Tr=>t.nm) wf.mn ht (fun t=>{t with rn:=t.rn-1})]
  rw[ej]at g8;have r8:=r1.ended ho ha aX dA qY;have cw8:Cw (j.ended a (s.ten a.id) aX):=⟨fun b hb=>r2.1 b (dA.subset (aY _ hb)),r2.2⟩;have g9:=Rf (s':={s with ag:=s.ag.eraseIdx i}) T hF r8 cw8 r3 g8;have T5:Tabs base w5:=T.goes hF g9;obtain⟨F9,hF9,o9,n9⟩:=g9;have BB:Inv {s with ag:=s.ag.eraseIdx i}:=St.nZ hi _ (fun b hb=>hi.bB b (List.mem_of_mem_eraseIdx hb));have j0:({s with ag:=s.ag.eraseIdx i}:St).sz<=16777000:=by unfold St.sz at hz⊢;have:(s.ag.eraseIdx i).length<=s.ag.length:=List.length_eraseIdx_le ..;dsimp only;omega
  have vh:s.aU i=({s with ag:=s.ag.eraseIdx i}:St).dR a.conn:=by unfold St.aU;rw[ha]
  show Calls _ _ _ _ _;refine(gB (v:= .returned (.tuple #[])) hF9 fun G hG=>DB T5 hG BB j0 a.conn (r2.1 a Vw) (fun hd _=> ?_) (fun he=>vQ BB he)).mono ?_
  ·have yz:s.drains a.conn=true:=hd;unfold St.drains at yz;cases hf:s.ak.find? (·.n==a.conn)with
   |none=>rw[hf]at yz;cases yz
   |some z=>
    rw[hf]at yz;have hz:=cO hf;have ez:z.n=a.conn:=by simpa using List.find?_some hf
    have TU:s.held a.conn≠0:=by unfold St.held;intro e0;have:=List.countP_eq_zero.1 e0 a mM;simp at this
    refine List.any_eq_true.2 ⟨z,hz, ?_⟩;have RX:z.gone=false:=by
     cases hgz:z.gone with
     |false=>rfl
     |true=>exact absurd ((ho.dr z hz yz).1.1 hgz) (by rw[ez];exact TU)
    simp only[a8,beq_iff_eq];exact⟨⟨ez,yz⟩,by rw[RX];rfl⟩
  ·rintro e w'⟨rfl,iG⟩;rw[<-vh]at iG;exact⟨rfl,k,ay o9 n9 iG⟩
 have Wb:Hid (Calls prog 125 #[.slice ao r.al.length cap,pt (g.ap (key a))] w fun e w'=> ∃v',e= .returned v'∧Goes (rowA 127 1 v' (r.al.erase a.n).length ((r.al.erase a.n).map fun n=>pt (g.ap (r.q.id,n)))) w G0 w'):=by show Calls _ _ _ _ _;rw[yA];exact Hg
 clear h hh hw Fs qi mz Vx Ui kP uG Fx yA Vw Hg wf hr ht er eq et uY yw r1 r2 r3;unfold pt sf at*;generalize g.ap (key a)=ap at*;generalize g.rp r.q.id=rp at*;generalize g.tp t.nm=tp at*;generalize t.rn=rn at*;generalize r.al.length=nal at*;go_enter func80,ntmps80;go_wp2_with (first
  |(go_at_call 125;go_must(refine Wb.out.mono ?_;rintro e w1⟨v1,rfl,hg⟩;obtain⟨gp,kn,rfl⟩:=aJ hg;obtain⟨d1,d2,d3,d4,d5,d6,V5⟩:=pR.out _ w1 hg;clear hg pR)))
 go_region_with (first
   |(go_at_call 126;go_must(refine V5.out.mono ?_;rintro e w5⟨u,rfl,d7,Ht⟩)))
 all_goals
  go_wp2_with (first
   |(go_at_call 127;go_must(refine Ht.out.mono ?_;rintro e w6⟨rfl,gM⟩;have yK:=hide gM;clear gM)))
  go_end0;exact⟨rfl,yK.out⟩
end Pj
namespace Pj
open Go.RowKit aD Mc
attribute [local go_sem] ae ah
structure Sd(n:Nat)(s:St):Prop where
 inv:Inv s
 ok:Ok s
 sz:s.sz<=n
 bd:Bd 4398046511104 s
namespace Sd
variable{n m:Nat}{s:St}
theorem le(h:Sd n s)(hn:n<=m):Sd m s:=⟨h.inv,h.ok,au h.sz hn,h.bd⟩
theorem say(h:Sd n s)(c:Int)(t:Bs):Sd (n+1) (s.say c t):=⟨St.bM h.inv c t,h.ok.say c t,by rw[St.eA];have:=h.sz;omega,h.bd.say c t⟩
theorem aU(h:Sd (n+3) s){i:Nat}{a:At}(ha:s.ag[i]?=some a):Sd n (s.aU i):=⟨St.ba h.inv i,h.ok.aU h.inv i,by have:=St.ku ha;have:=h.sz;omega,h.bd.aU i⟩
theorem DL(h:Sd n s)(i:Nat):Sd n (s.aU i):=⟨St.ba h.inv i,h.ok.aU h.inv i,au (St.ow i) h.sz,h.bd.aU i⟩
end Sd
theorem Q1{x P:Int}{q:Nat}(h1:0<=x∧x+q<=P)(hP:P<=4398046511104):0<=x∧x<=9223372036854775807:=by omega
theorem tL{x:Int}(h1:0<=x∧x<=999999):0<=x∧x<=9223372036854775807:=by omega
section
variable{base x tb:Nat}{g:Gh}{cn:List (Int×Nat×Bs)}{s:St}{j:Js}{w w':World}{F:Ft}
theorem EE(h:(stA base x tb g cn s).holds w F)(hi:Inv s)(hz:s.sz<=16777000){a:At}(ha:a∈s.ag): ∃k:Nat,∃q:Rq,s.req a.id=some q∧q.id=a.id∧w.heap[g.ap (key a)]?=some (.cells (kO g a k) 126 (0,0))∧ ∃av,w.heap[g.rp a.id]?=some (.cells (mD g s.c.re q av) 132 (0,0)):=by obtain⟨j,r1,r2,r3,hF,hh⟩:=h;have wf:=dD r1 hi hz;obtain⟨r,hr,t,ht,er,eq,et,uY,yw⟩:=CW r1 hi ha;obtain⟨v,av,wv,Fs,hw⟩:=kK hh wf hr ht;obtain⟨kk,ny,kh⟩:=List.mem_iff_getElem.1 (r1.hp.symm.subset ha);have qi:=w_at hw kk ny;rw[kh]at qi;refine⟨kk,r.q,eq,er,qi,av, ?_⟩;have:=bq (aw hw (show _=aa (ji g j.c.re r.q av) (aa (dB x j v) (aa (dF g v.rv j.ring) (aa (dm g v.lv j.hp) (aa (hpA g j.hp) (aa (iM g av r.q.id r.al) (aa (jF g t wv) (aa (je g wv t.wt) (aa (jQ g j v r t) (rC tb s.out)))))))))by unfold jW;ac_rfl));rw[<-er,<-r1.c];exact this.2.2
end
theorem jc{base x tb:Nat}{g:Gh}{cn:List (Int×Nat×Bs)}{s:St}{w:World}{F:Ft}(h:(stA base x tb g cn s).holds w F)(hi:Inv s)(hz:s.sz<=16777000){a:At}(ha:a∈s.ag):w.cell? ⟨g.ap (key a),0,none⟩=some (.int .i64 a.n)∧w.cell? ⟨g.ap (key a),1,none⟩=some (pt (g.rp a.id))∧w.cell? ⟨g.ap (key a),2,none⟩=some (.int .i64 a.conn)∧w.cell? ⟨g.rp a.id,0,none⟩=some (.int .i64 a.id):=by obtain⟨kk,q,_,Cs,qi,av,JQ⟩:=EE h hi hz ha;exact⟨by simp only[World.cell?,qi];rfl,by simp only[World.cell?,qi];rfl,by simp only[World.cell?,qi];rfl,by simp only[World.cell?,JQ];rw[<-Cs];rfl⟩
theorem Gu(id n:Int):said [.s [115,116,111,112], .n id, .n n]=St.aM id n:=by simp[said,Lib.join,Part.txt,St.aM]
theorem Be{base x tb:Nat}{g:Gh}{cn:List (Int×Nat×Bs)}{s:St}{w:World}{F:Ft}{n:Nat}(T:Tabs base w)(h:(stA base x tb g cn s).holds w F)(hs:Sd n s)(hn:n<=16776000){i:Nat}{a:At}(ha:s.ag[i]?=some a):Calls prog 66 #[pt x,pt tb,pt (g.ap (key a))] w fun e w'=>e= .returned (.tuple #[])∧ ∃k,Goes (aa (stA base x tb g cn ((s.say a.conn (St.aM a.id a.n)).aU i)) (eN g a k)) w F w':=by
 have mM:a∈s.ag:=cK ha;have Qi:=hs.bd.at' a mM;have hz:=hs.sz;obtain⟨ca0,Wm,ca2,cr0⟩:=jc h hs.inv (by omega) mM;have yH:Hid (∀w1,Goes (stA base x tb g cn (s.say a.conn (St.aM a.id a.n))) w F w1->w1.cell? ⟨g.ap (key a),0,none⟩=some (.int .i64 a.n)∧w1.cell? ⟨g.ap (key a),1,none⟩=some (pt (g.rp a.id))∧w1.cell? ⟨g.ap (key a),2,none⟩=some (.int .i64 a.conn)∧w1.cell? ⟨g.rp a.id,0,none⟩=some (.int .i64 a.id)):=fun w1 hg=>by obtain⟨F1,bU,_⟩:=hg;have jf:=hs.say a.conn (St.aM a.id a.n);exact jc bU jf.inv (by have:=jf.sz;omega) (show a∈s.ag from mM)
 have OY:=x9 T h (by omega) a.conn [.s [115,116,111,112], .n a.id, .n a.n] (St.aM a.id a.n) (Gu _ _) (by simp) (by simp) (by
  intro p hp;simp only[List.mem_cons,List.not_mem_nil,or_false]at hp;rcases hp with rfl|rfl|rfl
  ·exact Part.qD (by decide)
  ·exact Part.xV (tL Qi.id)
  ·exact Part.xV (Q1 Qi.n (Int.le_refl _)))
 have gj:=hide (OY w.drew (ar _ _).drew);have mS:Hid (∀w1,Goes (stA base x tb g cn (s.say a.conn (St.aM a.id a.n))) w F w1->Calls prog 80 #[pt x,pt tb,pt (g.ap (key a))] w1 fun e w'=>e= .returned (.tuple #[])∧ ∃k,Goes (aa (stA base x tb g cn ((s.say a.conn (St.aM a.id a.n)).aU i)) (eN g a k)) w F w'):=fun w1 hg=>by have T1:=T.goes (cr h) hg;obtain⟨F1,bU,o1,n1⟩:=hg;have jf:=hs.say a.conn (St.aM a.id a.n);refine(ox T1 bU jf.inv jf.ok (by have:=jf.sz;omega) (i:=i) (a:=a) ha).mono ?_;rintro e w'⟨rfl,k,iG⟩;exact⟨rfl,k,ay o1 n1 iG⟩
 clear OY h Qi;unfold pt at*;generalize g.ap (key a)=ap at*;generalize g.rp a.id=rp at*;go_enter func66,ntmps66;go_wp2_with fail;go_region_held3 (fun w'=>w'.cell? ⟨ap,0,none⟩=some (.int .i64 a.n)∧w'.cell? ⟨ap,1,none⟩=some (.pointer (some ⟨rp,0,none⟩))∧w'.cell? ⟨ap,2,none⟩=some (.int .i64 a.conn)∧w'.cell? ⟨rp,0,none⟩=some (.int .i64 a.id)) (go_keep) (first
   |(go_at_call 89;go_must(refine gj.out.mono ?_;rintro e w5⟨rfl,fO⟩;obtain⟨z0,z1,z2,z3⟩:=yH.out _ fO;have HE5:=hide (mS.out _ fO);clear fO)))
 all_goals
  go_wp2_with (first
   |(go_at_call 80;go_must(refine HE5.out.mono ?_;rintro e w6⟨rfl,gM⟩;have yK:=hide gM;clear gM)))
  go_end0;exact⟨rfl,yK.out⟩
end Pj
namespace Pj
open Go.RowKit aD Mc
attribute [local go_sem] ae ah
section
variable{base x tb:Nat}{g:Gh}{cn:List (Int×Nat×Bs)}{s:St}{j:Js}{w w':World}{F:Ft}
theorem fV(h:Rel g j s){id:Int}{q:Rq}(hq:s.req id=some q): ∃r∈j.reqs,∃t∈j.aI,r.q=q∧q.id=id∧t.nm=q.ten∧s.ten id=t.nm∧r.al=s.nums id:=by
 have hm:=cO hq;have e:q.id=id:=by simpa using List.find?_some hq
 rw[<-h.reqs]at hm;obtain⟨r,hr,rfl⟩:=ax.1 hm;obtain⟨t,ht,et⟩:=ax.1 (h.ten r.q (by rw[<-h.reqs];exact ax.2 ⟨r,hr,rfl⟩));refine⟨r,hr,t,ht,rfl,e,et, ?_,by rw[h.al r hr,e]⟩;unfold St.ten;rw[hq];exact et.symm
structure SH(g:Gh)(x:Nat)(s:St)(id:Int)(q:Rq)(w:World)(ao:Option Addr)(cap:Nat)(dz:Option Addr)(cJ:Nat):Prop where
 ci:w.cell? ⟨g.rp id,0,none⟩=some (.int .i64 id)
 conn:w.cell? ⟨g.rp id,1,none⟩=some (.int .i64 q.conn)
 ten:w.cell? ⟨g.rp id,2,none⟩=some (pt (g.tp q.ten))
 txt:w.cell? ⟨g.rp id,3,none⟩=some (bs q.txt)
 aaf:w.cell? ⟨g.rp id,4,none⟩=some (.int .i64 q.n)
 again:w.cell? ⟨g.rp id,5,none⟩=some (.int .i64 (s.c.re-q.left))
 hedged:w.cell? ⟨g.rp id,6,none⟩=some (.bool q.hedged)
 al:w.cell? ⟨g.rp id,7,none⟩=some (.slice ao (s.nums id).length cap)
 fz: ∀k,w.frozen? ⟨g.rp id,k,none⟩=false
 al0: ∀n l,s.nums id=n::l-> ∃b off,ao=some ⟨b,off,none⟩∧w.cell? ⟨b,off,none⟩=some (pt (g.ap (id,n)))
 nm:w.cell? ⟨g.tp q.ten,0,none⟩=some (bs q.ten)
 wt:w.cell? ⟨g.tp q.ten,1,none⟩=some (.slice dz (s.aL q.ten).length cJ)
 rn:w.cell? ⟨g.tp q.ten,2,none⟩=some (.int .i64 (s.runs q.ten))
 fzt: ∀k,w.frozen? ⟨g.tp q.ten,k,none⟩=false
 lt:g.rp id<w.heap.size∧g.tp q.ten<w.heap.size∧x<w.heap.size
 y7:(s.nums id).length<=16777210∧(s.aL q.ten).length<=16777210∧s.runs q.ten<=16777216
 cc:w.cell? ⟨x,1,none⟩=some (.int .i64 s.c.re)
theorem mh{e:TypeId}{v:Value}{n:Nat}{y:Value}{ys:List Value}{w:World}{F:Ft}(h:(rowA e 1 v n (y::ys)).holds w F)(hn:0<n): ∃b off cap,v= .slice (some ⟨b,off,none⟩) n cap∧w.cell? ⟨b,off,none⟩=some y:=by obtain⟨ao,cap,rfl,_,_,h4,_⟩:=bS h;obtain⟨b,off,rfl,_⟩:=h4 hn;refine⟨b,off,cap,rfl, ?_⟩;have:=aW h 0 (by omega);simpa using this
theorem eZ(h:(stA base x tb g cn s).holds w F)(hi:Inv s)(hz:s.sz<=16777000){id:Int}{q:Rq}(hq:s.req id=some q): ∃ao cap dz cJ,SH g x s id q w ao cap dz cJ:=by
 obtain⟨j,r1,r2,r3,hF,hh⟩:=h;have wf:=dD r1 hi hz;obtain⟨r,hr,t,ht,er,ei,et,uY,yw⟩:=fV r1 hq;obtain⟨v,av,wv,Fs,hw⟩:=kK hh wf hr ht;have Q:=L4 hw;have TT:=R6 hw;have D:=Rm hw;obtain⟨G0,kP,_⟩:=LG hw;obtain⟨ao,cap,rfl⟩:=aJ (Goes.refl kP);have WU: ∃G,(je g wv t.wt).holds w G:=by have h2:=aw hw (show _=aa (je g wv t.wt) (aa (dB x j v) (aa (dF g v.rv j.ring) (aa (dm g v.lv j.hp) (aa (hpA g j.hp) (aa (ji g j.c.re r.q (.slice ao r.al.length cap)) (aa (iM g (.slice ao r.al.length cap) r.q.id r.al) (aa (jF g t wv) (aa (jQ g j v r t) (rC tb s.out)))))))))by unfold jW;ac_rfl);obtain⟨G,hG,_⟩:=aD.left h2;exact⟨G,hG⟩
 obtain⟨G1,Bw⟩:=WU;obtain⟨dz,cJ,rfl⟩:=aJ (Goes.refl Bw);have LV:=r1.rn t ht;have uL:=r1.wt t ht;have b1:=wf.b1 t ht;have b5:=wf.b5 t ht;have Y6:=wf.al r hr;subst er;have lt1:g.rp id<w.heap.size:=by obtain⟨cs,tt,hb⟩:=Q.2.2;rw[ei]at hb;exact(bZ.1 hb).1
 have lt2:g.tp r.q.ten<w.heap.size:=by obtain⟨cs,tt,hb⟩:=TT.2.2;rw[et]at hb;exact(bZ.1 hb).1
 have lt3:x<w.heap.size:=by obtain⟨cs,tt,hb⟩:=D.2.2;exact(bZ.1 hb).1
 rw[ei,yw]at Q;rw[et]at TT;rw[uL,et]at b1;have eb:t.rn=s.runs r.q.ten:=by rw[LV,et]
 rw[eb]at b5;rw[yw]at Y6 kP;refine⟨ao,cap,dz,cJ,by rw[Q.1];show some (Value.int _ r.q.id)=_;rw[ei],Q.1 1,Q.1 2,Q.1 3,Q.1 4,by rw[Q.1];show some (Value.int _ (j.c.re-r.q.left))=_;rw[r1.c],Q.1 6,Q.1 7,Q.2.1,fun n l e=> ?_,by rw[TT.1];show some (bs t.nm)=_;rw[et],by rw[TT.1];show some (Value.slice dz t.wt.length cJ)=_;rw[uL,et],by rw[TT.1];show some (Value.int .i64 t.rn)=_;rw[eb],TT.2.1,⟨lt1,lt2,lt3⟩,⟨Y6,b1,by omega⟩,by rw[D.1];show some (Value.int .i64 j.c.re)=_;rw[r1.c]⟩;unfold iM at kP;rw[e,List.map_cons]at kP;obtain⟨b,off,cp,e1,e2⟩:=mh kP (by simp);cases e1;exact⟨b,off,rfl,by rw[e2,ei]⟩
theorem NB(T:Tabs base w)(h:(stA base x tb g cn s).holds w F)(hi:Inv s)(hz:s.sz<=16777000){id:Int}{q:Rq}(hq:s.req id=some q):Calls prog 74 #[pt x,pt (g.rp id)] w fun e w'=>e= .returned (.tuple #[])∧Goes (stA base x tb g cn (s.left id)) w F w':=by obtain⟨j,r1,r2,r3,hF,hh⟩:=h;have wf:=dD r1 hi hz;obtain⟨r,hr,t,ht,er,ei,et,uY,yw⟩:=fV r1 hq;subst er;subst ei;refine(gB hh fun G hG=>Au x g j r t w G hG wf hr ht et).mono ?_;rintro e w'⟨rfl,hg⟩;exact⟨rfl,fJ T hF (r1.left hi ht uY.symm) r2 r3 hg⟩
theorem pG(T:Tabs base w)(h:(stA base x tb g cn s).holds w F)(hi:Inv s)(hz:s.sz<=16777000){id:Int}{q:Rq}(hq:s.req id=some q):Calls prog 83 #[pt x,pt (g.rp id)] w fun e w'=>e= .returned (.tuple #[])∧Goes (stA base x tb g cn (s.aT id true)) w F w':=by
 obtain⟨j,r1,r2,r3,hF,hh⟩:=h;have wf:=dD r1 hi hz;obtain⟨r,hr,t,ht,er,ei,et,uY,yw⟩:=fV r1 hq;subst er;subst ei;refine(gB hh fun G hG=>vC x g j r t w G hG wf hr ht et).mono ?_;rintro e w'⟨rfl,hg⟩;have eo:(s.aT r.q.id true).out=s.out:=by unfold St.aT;split<;>rfl
 exact⟨rfl,fJ T hF (r1.wait hi ht uY.symm true) r2 r3 (by rw[eo];exact hg)⟩
theorem rE(T:Tabs base w)(h:(stA base x tb g cn s).holds w F)(hi:Inv s)(hz:s.sz<=16777000){id:Int}{q:Rq}(hq:s.req id=some q):Calls prog 70 #[pt x,pt (g.rp id)] w fun e w'=>e= .returned (.tuple #[])∧Goes (stA base x tb g cn (s.aT id false)) w F w':=by
 obtain⟨j,r1,r2,r3,hF,hh⟩:=h;have wf:=dD r1 hi hz;obtain⟨r,hr,t,ht,er,ei,et,uY,yw⟩:=fV r1 hq;subst er;subst ei;refine(gB hh fun G hG=>yo x g j r t w G hG wf hr ht et).mono ?_;rintro e w'⟨rfl,hg⟩;have eo:(s.aT r.q.id false).out=s.out:=by unfold St.aT;split<;>rfl
 exact⟨rfl,fJ T hF (r1.wait hi ht uY.symm false) r2 r3 (by rw[eo];exact hg)⟩
end
variable{g:Gh}{w:World}{F:Ft}
theorem PK{t:Tr}{wv:Value}{Z:aD}(h:(aa (jF g t wv) (aa (je g wv t.wt) Z)).holds w F):(aa (eC g t) Z).holds w F:=by unfold eC;rw[bF];exact⟨wv,by show(aa (aa (jF g t wv) (je g wv t.wt)) Z).holds w F;rw[bn];exact h⟩
theorem lQ{A B:aD}{w':World}(h:Goes (aa A B) w F w'):Goes B w F w':=(h.eq (aZ _ _)).drop
theorem zA(l:List Rr)(id:Int):l.filter (fun r=>r.q.id !=id)=l.filter fun y=>decide (y.q.id≠id):=List.filter_congr fun y _=>by by_cases e:y.q.id=id<;>simp[e]
theorem MR(l:List Tr)(nm:Bs):l.filter (fun t=>t.nm !=nm)=l.filter fun y=>decide (y.nm≠nm):=List.filter_congr fun y _=>by by_cases e:y.nm=nm<;>simp[e]
theorem EB(g:Gh)(l:List Rr)(id:Int):(l.map fun r=>(r.q.id,g.rp r.q.id)).filter (fun x=>decide (x.1≠id))=(l.filter fun y=>decide (y.q.id≠id)).map fun r=>(r.q.id,g.rp r.q.id):=by rw[List.filter_map];rfl
theorem Oz(g:Gh)(l:List Tr)(nm:Bs):(l.map fun t=>(t.nm,g.tp t.nm)).filter (fun x=>decide (x.1≠nm))=(l.filter fun y=>decide (y.nm≠nm)).map fun t=>(t.nm,g.tp t.nm):=by rw[List.filter_map];rfl
theorem MO{base x tb:Nat}{cn:List (Int×Nat×Bs)}{s:St}(T:Tabs base w)(h:(stA base x tb g cn s).holds w F)(hi:Inv s)(hz:s.sz<=16777000){id:Int}{q:Rq}(hq:s.req id=some q)(ha: ∀a∈s.ag,a.id≠id)(uL:s.waits id=false)(hb:Busy s (fun x=>x=id))(hid:I6 id)(vo:q.ten.length<=64): ∃rm tm dz cJ w4,w.cell? ⟨x,7,none⟩=some (.map (some rm))∧w.cell? ⟨g.rp id,0,none⟩=some (.int .i64 id)∧(Builtin.delete_ #[82,3] 0 #[.map (some rm), .int .i64 id]).run prog w.drew= .ok (.tuple #[]) w4∧w4.cell? ⟨g.rp id,2,none⟩=some (pt (g.tp q.ten))∧w4.cell? ⟨g.tp q.ten,0,none⟩=some (bs q.ten)∧w4.cell? ⟨g.tp q.ten,1,none⟩=some (.slice dz (s.aL q.ten).length cJ)∧w4.cell? ⟨g.tp q.ten,2,none⟩=some (.int .i64 (s.runs q.ten))∧w4.cell? ⟨x,8,none⟩=some (.map (some tm))∧(¬(s.aL q.ten= []∧s.runs q.ten=0)->Goes (stA base x tb g cn {s with reqs:=dropFirst (·.id==id) s.reqs}) w F w4)∧((s.aL q.ten= []∧s.runs q.ten=0)-> ∃w5,(Builtin.delete_ #[83,9] 0 #[.map (some tm),bs q.ten]).run prog w4.drew= .ok (.tuple #[]) w5∧Goes (stA base x tb g cn {s with reqs:=dropFirst (·.id==id) s.reqs}) w F w5):=by
 obtain⟨ao,cap,dz,cJ,RA⟩:=eZ h hi hz hq;obtain⟨j,r1,r2,r3,hF,hh⟩:=h;have wf:=dD r1 hi hz;obtain⟨r,hr,t,ht,er,ei,et,uY,yw⟩:=fV r1 hq;subst er;subst ei;obtain⟨v,av,wv,Fs,hw⟩:=kK hh wf hr ht;have erw:=(r1.wt t ht);have U9:=(r1.rn t ht);rw[et]at erw U9;have hrel:=r1.dropped hi ha uL hb ht uY.symm;obtain⟨Z,hZ⟩: ∃Z:aD,Z=aa (dB x j v) (aa (dF g v.rv j.ring) (aa (dm g v.lv j.hp) (aa (hpA g j.hp) (aa (iu v.cm j.br) (aa (all gi j.br) (aa (all (dP g j.c.re) (j.reqs.filter fun y=>decide (y.q.id≠r.q.id))) (aa (all (eC g) (j.aI.filter fun y=>decide (y.nm≠t.nm))) (aa (gm v.pv j.pull) (rC tb s.out))))))))):=⟨_,rfl⟩;have h1:=aw hw (show _=aa (gJ g v.rm j.reqs) (aa (fW g v.tm j.aI) (aa (ji g j.c.re r.q av) (aa (iM g av r.q.id r.al) (aa (jF g t wv) (aa (je g wv t.wt) Z)))))by rw[hZ];unfold jW jQ;ac_rfl);obtain⟨G,H,Ti,bP,d1,e1⟩:=bI h1 1;obtain⟨w4,tD,gL⟩:=ua Ti underlying82 0 r.q.id hid;have g4:=cX (q:=1) (aH bP gL d1 e1);obtain⟨F4,u9,o4,n4⟩:=id g4;have B1:=bq (aw u9 (show _=aa (ji g j.c.re r.q av) (aa (mapA iA v.rm ((j.reqs.map fun r=>(r.q.id,g.rp r.q.id)).filter fun x=>decide (x.1≠r.q.id))) (aa (fW g v.tm j.aI) (aa (iM g av r.q.id r.al) (aa (jF g t wv) (aa (je g wv t.wt) Z)))))by ac_rfl));have B2:=bq (aw u9 (show _=aa (jF g t wv) (aa (mapA iA v.rm ((j.reqs.map fun r=>(r.q.id,g.rp r.q.id)).filter fun x=>decide (x.1≠r.q.id))) (aa (fW g v.tm j.aI) (aa (ji g j.c.re r.q av) (aa (iM g av r.q.id r.al) (aa (je g wv t.wt) Z)))))by ac_rfl));have B3:=bq (aw u9 (show _=aa (dB x j v) (aa (mapA iA v.rm ((j.reqs.map fun r=>(r.q.id,g.rp r.q.id)).filter fun x=>decide (x.1≠r.q.id))) (aa (fW g v.tm j.aI) (aa (ji g j.c.re r.q av) (aa (iM g av r.q.id r.al) (aa (jF g t wv) (aa (je g wv t.wt) (aa (dF g v.rv j.ring) (aa (dm g v.lv j.hp) (aa (hpA g j.hp) (aa (iu v.cm j.br) (aa (all gi j.br) (aa (all (dP g j.c.re) (j.reqs.filter fun y=>decide (y.q.id≠r.q.id))) (aa (all (eC g) (j.aI.filter fun y=>decide (y.nm≠t.nm))) (aa (gm v.pv j.pull) (rC tb s.out)))))))))))))))by rw[hZ];ac_rfl));rw[et]at B2;have Bw: ∃G,(je g wv t.wt).holds w4 G:=by obtain⟨G,hG,_⟩:=aD.left (aw u9 (show _=aa (je g wv t.wt) (aa (mapA iA v.rm ((j.reqs.map fun r=>(r.q.id,g.rp r.q.id)).filter fun x=>decide (x.1≠r.q.id))) (aa (fW g v.tm j.aI) (aa (ji g j.c.re r.q av) (aa (iM g av r.q.id r.al) (aa (jF g t wv) Z)))))by ac_rfl));exact⟨G,hG⟩
 obtain⟨G1,Bw⟩:=Bw;obtain⟨gY,cP,rfl⟩:=aJ (Goes.refl Bw);refine⟨v.rm,v.tm,gY,cP,w4,(Rm hw).1 7,RA.ci,tD,B1.1 2,by rw[B2.1 0];show some (bs t.nm)=_;rw[et],by rw[B2.1 1];show some (Value.slice gY t.wt.length cP)=_;rw[erw],by rw[B2.1 2];show some (Value.int .i64 t.rn)=_;rw[U9],B3.1 8,fun xt=> ?_,fun xw=> ?_⟩
 ·refine fJ (s':={s with reqs:=dropFirst (·.id==r.q.id) s.reqs}) T hF hrel r2 r3 ?_;have g5:=g4.eq (show _=aa (aa (ji g j.c.re r.q av) (iM g av r.q.id r.al)) (aa (jF g t (.slice gY t.wt.length cP)) (aa (je g (.slice gY t.wt.length cP) t.wt) (aa (gJ g v.rm (j.reqs.filter fun y=>decide (y.q.id≠r.q.id))) (aa (fW g v.tm j.aI) Z))))by rw[EB];unfold gJ;ac_rfl);refine(lQ g5).mono fun F' h'=> ?_;have WC:=PK h';unfold jA;rw[bF];refine⟨v,aw WC ?_⟩;unfold aS Js.dropped;rw[if_neg (by rw[erw,U9];intro e;exact xt ⟨e.1,by have:=e.2;omega⟩)];dsimp only;rw[zA,jm (A:=eC g) (k:=fun t:Tr=>t.nm) wf.mn ht,hZ];show _=aa (aa (dB x j v) _) _
  ac_rfl
 ·have h5:=aw u9 (show _=aa (fW g v.tm j.aI) (aa (mapA iA v.rm ((j.reqs.map fun r=>(r.q.id,g.rp r.q.id)).filter fun x=>decide (x.1≠r.q.id))) (aa (ji g j.c.re r.q av) (aa (iM g av r.q.id r.al) (aa (jF g t (.slice gY t.wt.length cP)) (aa (je g (.slice gY t.wt.length cP) t.wt) Z)))))by ac_rfl);obtain⟨G5,H5,ha5,pM,d5,e5⟩:=bI h5 1;obtain⟨w5,TD,fO⟩:=ua ha5 underlying83 0 r.q.ten (show r.q.ten.length<=maxLen by unfold maxLen;omega);refine⟨w5,TD, ?_⟩;have g5:=ay o4 n4 (cX (q:=1) (aH pM fO d5 e5));refine fJ (s':={s with reqs:=dropFirst (·.id==r.q.id) s.reqs}) T hF hrel r2 r3 ?_;have g6:=g5.eq (show _=aa (aa (ji g j.c.re r.q av) (aa (iM g av r.q.id r.al) (aa (jF g t (.slice gY t.wt.length cP)) (je g (.slice gY t.wt.length cP) t.wt)))) (aa (gJ g v.rm (j.reqs.filter fun y=>decide (y.q.id≠r.q.id))) (aa (fW g v.tm (j.aI.filter fun y=>decide (y.nm≠r.q.ten))) Z))by rw[EB,Oz];unfold gJ fW;ac_rfl);refine(lQ g6).mono fun F' h'=> ?_;unfold jA;rw[bF];refine⟨v,aw h' ?_⟩;unfold aS Js.dropped;rw[if_pos (by rw[erw,U9];exact⟨xw.1,by have:=xw.2;omega⟩)];dsimp only;rw[zA,MR,hZ,et];show _=aa (aa (dB x j v) _) _
  ac_rfl
variable{n i:Nat}{s:St}{a:At}
theorem I6.of{c:Int}(h1: -9223372036854775808<=c)(h2:c<=9223372036854775807):I6 c:=by unfold I6;simp only[Lit.wf,a8,decide_eq_true_eq];exact⟨h1,h2⟩
theorem Sd.stop(h:Sd n s)(c:Int)(t:Bs)(ha:s.ag[i]?=some a):Sd n ((s.say c t).aU i):=by have h1:=h.say c t;refine⟨St.ba h1.inv i,h1.ok.aU h1.inv i, ?_,h1.bd.aU i⟩;have:=St.ku (s:=s.say c t) (i:=i) (a:=a) ha;have:=h1.sz;omega
theorem s8(ha:s.ag[i]?=some a):s.aU i=({s with ag:=s.ag.eraseIdx i}:St).dR a.conn:=by unfold St.aU;rw[ha]
theorem oa(s:St)(c:Int):(s.dR c).ag=s.ag∧(s.dR c).reqs=s.reqs∧(s.dR c).ring=s.ring∧(s.dR c).wait=s.wait∧(s.dR c).c=s.c∧(s.dR c).now=s.now:=by unfold St.dR;split<;>exact⟨rfl,rfl,rfl,rfl,rfl,rfl⟩
theorem FX(ho:Ok s)(ha:s.ag[i]?=some a)(id:Int):(s.aU i).nums id=if id=a.id then(s.nums id).erase a.n else s.nums id:=by
 rw[s8 ha];have:(({s with ag:=s.ag.eraseIdx i}:St).dR a.conn).nums id=({s with ag:=s.ag.eraseIdx i}:St).nums id:=by unfold St.nums;rw[(oa _ _).1]
 rw[this];exact St.uj ho ha id
theorem lC(i:Nat)(id:Int):(s.aU i).req id=s.req id:=by
 unfold St.aU;split
 ·unfold St.req;rw[(oa _ _).2.1]
 ·rfl
theorem Busy.left{P:Int->Prop}(h:Busy s P)(id:Int)(hp:P id):Busy (s.left id) P:=fun r hr hn=>by
 rcases h r hr hn with h1|h1
 ·exact .inl ((St.kL r.id id).2 ⟨fun e=>hn (e▸hp),h1⟩)
 ·exact .inr h1
def yT(rp:Nat)(w:World):Nat:=match w.cell? ⟨rp,7,none⟩with|some (.slice _ n _)=>n|_=>0
structure sG(base x tb:Nat)(g:Gh)(cn:List (Int×Nat×Bs))(n:Nat)(s:St)(id:Int)(q:Rq)(w:World)(F:Ft)(s':St)(wr:World):Prop where
 sd:Sd n s'
 busy:Busy s' (fun y=>y=id)
 req:s'.req id=some q
 goes:Goes (stA base x tb g cn s') w F wr
 done: ∃f,s'.ag.length<=f∧St.stops f s' id=St.stops s.ag.length s id
theorem pz{base x tb:Nat}{g:Gh}{cn:List (Int×Nat×Bs)}{w:World}{F:Ft}(T:Tabs base w)(h:(stA base x tb g cn s).holds w F)(hs:Sd n s)(hn:n<=16776000){id:Int}{q:Rq}(hq:s.req id=some q)(hb:Busy s (fun y=>y=id)):Calls prog 81 #[pt x,pt tb,pt (g.rp id)] w fun e w'=>e= .returned (.tuple #[])∧Goes (stA base x tb g cn (s.shut id)) w F w':=by
 have uG:Hid (sG base x tb g cn n s id q w F s w):=⟨hs,hb,hq,Goes.refl h,_,af _,rfl⟩;have hF:=cr h;have HT:=hide T;have HF:=hide hF;clear hs hb hq h T hF;unfold pt;go_enter func81,ntmps81;go_wp2;go_loopw [] (fun wr=> ∃s':St,Hid (sG base x tb g cn n s id q w F s' wr)) (fun wr=>yT (g.rp id) wr)
 case atStart=>exact⟨s,uG⟩
 case round=>
  obtain⟨s',gO⟩:=hrel;obtain⟨F1,bU,o1,n1⟩:=gO.out.goes;have T1:=HT.out.goes HF.out gO.out.goes;have hz:=gO.out.sd.sz;obtain⟨ao,cap,dz,cJ,RA⟩:=eZ bU gO.out.sd.inv (by omega) gO.out.req;have c7:=RA.al;have pQ:Hid (yT (g.rp id) wr=(s'.nums id).length):=by show(_=_);unfold yT;rw[c7]
  have kA:=RA.y7.1;cases QC:s'.nums id with
  |nil=>
   have jf:=gO.out.sd;have YN:Hid (Calls prog 74 #[pt x,pt (g.rp id)] wr fun e w'=>e= .returned (.tuple #[])∧Goes (stA base x tb g cn (s'.left id)) w F w'):=by refine(NB T1 bU jf.inv (by omega) gO.out.req).mono ?_;rintro e w'⟨rfl,hg⟩;exact⟨rfl,ay o1 n1 hg⟩
   have Vf: ∀a∈s'.ag,a.id≠id:=fun a ha e=>by have:a.n∈s'.nums id:=ly.2 ⟨a,ha,e,rfl⟩;rw[QC]at this;cases this
   have lU:s.shut id={s'.left id with reqs:=dropFirst (·.id==id) (s'.left id).reqs}:=by obtain⟨f,hf,e⟩:=gO.out.done;rw[St.Bg QC]at e;unfold St.shut;rw[<-e]
   have tK:=cO gO.out.req;have O4:q.id=id:=by simpa using List.find?_some gO.out.req
   have kS:=jf.bd.rq q tK;have BK:Hid (∀w2,Goes (stA base x tb g cn (s'.left id)) w F w2->_):=fun w2 hg=>by
    have T2:=HT.out.goes HF.out hg;obtain⟨F2,gl,o2,n2⟩:=hg;have d:=MO T2 gl (St.oP jf.inv id) (show s'.sz<=16777000 by omega) (id:=id) (q:=q) gO.out.req Vf (by rw[St.fK,St.kL];simp) (Busy.left gO.out.busy id rfl) (by have:=kS.id;rw[O4]at this;exact I6.of (by omega) (by omega)) kS.ten;obtain⟨rm,tm,gY,cP,w4,p1,p2,p3,p4,p5,p6,p7,p8,p9,UJ⟩:=d;rw[<-lU]at p9 UJ;exact(⟨rm,tm,gY,cP,w4,p1,p2,p3,p4,p5,p6,p7,p8,fun h=>ay o2 n2 (p9 h),fun h=>by obtain⟨w5,a1,a2⟩:=UJ h;exact⟨w5,a1,ay o2 n2 a2⟩⟩: ∃rm tm gY cP w4,w2.cell? ⟨x,7,none⟩=some (.map (some rm))∧w2.cell? ⟨g.rp id,0,none⟩=some (.int .i64 id)∧
     (Builtin.delete_ #[82,3] 0 #[.map (some rm), .int .i64 id]).run prog w2.drew= .ok (.tuple #[]) w4∧
     w4.cell? ⟨g.rp id,2,none⟩=some (pt (g.tp q.ten))∧w4.cell? ⟨g.tp q.ten,0,none⟩=some (bs q.ten)∧w4.cell? ⟨g.tp q.ten,1,none⟩=some (.slice gY ((s'.left id).aL q.ten).length cP)∧w4.cell? ⟨g.tp q.ten,2,none⟩=some (.int .i64 ((s'.left id).runs q.ten))∧w4.cell? ⟨x,8,none⟩=some (.map (some tm))∧
     (¬((s'.left id).aL q.ten= []∧(s'.left id).runs q.ten=0)->Goes (stA base x tb g cn (s.shut id)) w F w4)∧
     (((s'.left id).aL q.ten= []∧(s'.left id).runs q.ten=0)-> ∃w5,(Builtin.delete_ #[83,9] 0 #[.map (some tm),bs q.ten]).run prog w4.drew= .ok (.tuple #[]) w5∧Goes (stA base x tb g cn (s.shut id)) w F w5))
   have XG:=RA.y7;have D7:(s'.nums id).length=0:=by rw[QC];rfl
   rw[D7]at c7;clear gO bU o1 n1 RA uG HT HF jf lU kS Vf;unfold pt bs at*;generalize g.rp id=rp at*;generalize g.tp q.ten=tp at*;go_wp2_with (first
    |(go_at_call 74;go_must(refine YN.out.mono ?_;rintro e w2⟨rfl,hg⟩;obtain⟨rm,tm,gY,cP,w4,p1,p2,p3,p4,p5,p6,p7,p8,p9,UJ⟩:=BK.out w2 hg;have Su:=hide p9;have Me:=hide UJ;clear p9 UJ hg BK YN)))
   have JQ:=XG;by_cases kg:(s'.left id).aL q.ten= []
   ·have Fq:((s'.left id).aL q.ten).length=0:=by rw[kg];rfl
    rw[Fq]at p6;by_cases QE:(s'.left id).runs q.ten=0
    ·obtain⟨w5,u1,u2⟩:=Me.out ⟨kg,QE⟩;have SA:=hide u2;rw[QE]at p7;change _=some (Value.int .i64 0)at p7;clear Su Me u2 kg QE Fq;go_region_with (fail)
     all_goals
      go_wp2;go_region_with (fail)
      all_goals go_end0;exact⟨rfl,SA.out⟩
    ·have SA:=hide (Su.out (fun e=>QE e.2));have QF:(((((s'.left id).runs q.ten:Nat):Int))==0)=false:=by simpa using QE
     clear Su Me kg Fq;generalize(s'.left id).runs q.ten=rr at*;go_region_with (fail)
     all_goals go_wp2;go_end0;exact⟨rfl,SA.out⟩
   ·have SA:=hide (Su.out (fun e=>kg e.1));have QF:(((((s'.left id).aL q.ten).length:Nat):Int)==0)=false:=by
     have:((s'.left id).aL q.ten).length≠0:=fun e=>kg (List.eq_nil_of_length_eq_zero e);simpa using this
    clear Su Me kg;generalize((s'.left id).aL q.ten).length=rr at*;go_region_with (fail)
    all_goals go_wp2;go_end0;exact⟨rfl,SA.out⟩
  |cons n0 l=>
   obtain⟨i,a,rL,nu,zw,DK⟩:=St.FW QC;obtain⟨b,off,rfl,cb⟩:=RA.al0 n0 l QC;have yA:key a=(id,n0):=by unfold key;rw[zw,DK]
   have mV:Hid (Calls prog 66 #[pt x,pt tb,pt (g.ap (id,n0))] wr fun e w'=>e= .returned (.tuple #[])∧ ∃rz,sG base x tb g cn n s id q w F rz w'∧yT (g.rp id) w'<(s'.nums id).length):=by
    show Calls _ _ _ _ _;rw[<-yA];refine(Be T1 bU gO.out.sd (by omega) nu).mono ?_;rintro e w'⟨rfl,k,hg⟩;have iG:=ay o1 n1 hg.drop;rw[zw]at iG;have q9:=gO.out.sd.stop a.conn (St.aM id a.n) nu;have LW:((s'.say a.conn (St.aM id a.n)).aU i).req id=some q:=by rw[lC];exact gO.out.req
    refine⟨rfl,_,⟨q9, ?_,LW,iG, ?_⟩, ?_⟩
    ·have:=Busy.aU (i:=i) (a:=a) (gO.out.busy.say a.conn (St.aM id a.n)) nu;exact this.mono (fun y hy=>hy.elim (fun h=>h) (fun h=>h.trans zw))
    ·obtain⟨f,hf,e⟩:=gO.out.done;have hlen:i<s'.ag.length:=(cH.1 nu).1;obtain⟨f',rfl⟩: ∃f',f=f'+1:=⟨f-1,by omega⟩;rw[St.C8 rL nu]at e;refine⟨f', ?_,e⟩;rw[s8 (s:=s'.say a.conn (St.aM id a.n)) nu,(oa _ _).1];show(s'.ag.eraseIdx i).length<=f';rw[List.length_eraseIdx_of_lt hlen];omega
    ·obtain⟨F3,kT,_⟩:=iG;obtain⟨eK,bO,_,_,RA'⟩:=eZ kT q9.inv (by have:=q9.sz;omega) LW;unfold yT;rw[RA'.al];dsimp only;rw[FX (s:=s'.say a.conn (St.aM id a.n)) (gO.out.sd.ok.say _ _) nu,if_pos zw.symm];have hm:a.n∈s'.nums id:=ly.2 ⟨a,cK nu,zw,rfl⟩;have h1:((s'.nums id).erase a.n).length=(s'.nums id).length-1:=List.length_erase_of_mem hm;have h2:=List.length_pos_of_mem hm;show((s'.nums id).erase a.n).length<_;omega
   have tF:(s'.nums id).length=l.length+1:=by rw[QC];rfl
   rw[tF]at c7 pQ mV kA;have aab:(0:Int)<((l.length:Nat):Int)+1:=by omega
   clear gO bU o1 n1 RA uG HT HF;unfold pt at*;generalize g.rp id=rp at*;generalize g.ap (id,n0)=pa at*;generalize l.length=ln at*;go_wp2_with (first
    |(go_at_call 66;go_must(refine mV.out.mono ?_;rintro e w2⟨rfl,rz,lU,Pf⟩;have EM:=hide lU;have Sq:=hide Pf;clear lU Pf)))
   go_roundw
   case rel=>exact⟨rz,EM⟩
   case measure=>have:=Sq.out;have:=pQ.out;omega
theorem upd_same{α κ:Type} [DecidableEq κ]{k:α->κ}{l:List α}(hn:(l.map k).Nodup){y:α}(hy:y∈l):upd k (k y) (fun _=>y) l=l:=by have:=iJ hn hy (fun z=>z);rw[<-this];exact LC k (k y) l
theorem KU{base x tb:Nat}{g:Gh}{cn:List (Int×Nat×Bs)}{s:St}{w:World}{F:Ft}(T:Tabs base w)(h:(stA base x tb g cn s).holds w F)(hi:Inv s)(hz:s.sz<=16777000){id:Int}{q:Rq}(hq:s.req id=some q)(f:Rq->Rq)(h1: ∀r,(f r).id=r.id)(h2: ∀r,(f r).ten=r.ten)(k:Nat)(u:Value)(he: ∀av,(mD g s.c.re q av).setIfInBounds k u=mD g s.c.re (f q) av):Goes (stA base x tb g cn (s.bg id f)) w F (w.setCell ⟨g.rp id,k,none⟩ u):=by
 obtain⟨j,r1,r2,r3,hF,hh⟩:=h;have wf:=dD r1 hi hz;obtain⟨r,hr,t,ht,er,ei,et,uY,yw⟩:=fV r1 hq;subst er;subst ei;obtain⟨v,av,wv,Fs,hw⟩:=kK hh wf hr ht;have g1:=LH (Goes.refl hw) k u (f r.q) (by rw[r1.c];exact he av) (h1 _);have g2:=w_shut (v:=v) (q:=f r.q) (t':=t) j v wf hr ht (h1 _) rfl rfl rfl rfl rfl rfl rfl rfl rfl rfl g1;have ej:Js.at2 j r.q.id t.nm (f r.q) r.al t=j.OO r.q.id (fun r=>{r with q:=f r.q}):=by unfold Js.at2 Js.OO;rw[iJ (k:=fun r:Rr=>r.q.id) wf.rid hr (fun r=>{r with q:=f r.q}),upd_same (k:=fun t:Tr=>t.nm) wf.mn ht]
 rw[ej]at g2;exact fJ (s':=s.bg r.q.id f) T hF (r1.bg hi r.q.id f h1 h2) r2 r3 g2
section
variable{base x tb:Nat}{g:Gh}{cn:List (Int×Nat×Bs)}{s:St}{w:World}{F:Ft}
theorem J6{κ:Type} [DecidableEq κ]{l:List κ}{x:κ}:decide (0<=Mr.uM (l.findIdx? fun y=>decide (y=x)))=decide (x∈l):=by
 cases hf:l.findIdx? fun y=>decide (y=x)with
 |none=>
  have:x∉l:=fun hm=>by have:=List.findIdx?_eq_none_iff.1 hf x hm;simp at this
  simp[Mr.uM,this]
 |some i=>
  obtain⟨h1,h2,_⟩:=List.findIdx?_eq_some_iff_getElem.1 hf;have hx:x∈l:=by
   have:l[i]=x:=by simpa using h2
   rw[<-this];exact bY h1
  have h0:0<=Mr.uM (some i):=by simp[Mr.uM]
  simp[hx,h0]
theorem SY{κ:Type} [DecidableEq κ](v:Value)(l:List κ)(f:κ->Nat)(x:κ)(w:World)(G:Ft)(h:(rowA 124 1 v l.length (l.map fun i=>pt (f i))).holds w G)(gR: ∀y∈l,f y=f x->y=x)(hb: ∀y∈l,jk w (f y))(hx:jk w (f x))(hl:l.length<=16777216):Calls prog 167 #[v,pt (f x)] w fun e w'=>e= .returned (.bool (decide (x∈l)))∧w'=w:=by
 have mU:=ixR v l f x w G h gR hb hx hl;have HE:=J6 (l:=l) (x:=x);obtain⟨ao,cap,rfl,_⟩:=Mr.cE h;rw[<-HE];clear h gR hb hx HE;generalize Mr.uM (l.findIdx? fun y=>decide (y=x))=ii at*;unfold pt at*;go_enter func167,ntmps167;go_wp2_with (first
  |(go_at_call 156;go_must(refine mU.mono ?_;rintro e w1⟨rfl,rfl⟩)))
 go_ret;exact⟨rfl,rfl⟩
theorem GZ(h:(stA base x tb g cn s).holds w F)(hi:Inv s)(hz:s.sz<=16777000){id:Int}{q:Rq}(hq:s.req id=some q):Calls prog 128 #[pt (g.rp id)] w fun e w'=>e= .returned (.bool (s.waits id))∧w'=w:=by
 obtain⟨ao,cap,dz,cJ,RA⟩:=eZ h hi hz hq;obtain⟨j,r1,r2,r3,hF,hh⟩:=h;have wf:=dD r1 hi hz;obtain⟨r,hr,t,ht,er,ei,et,uY,yw⟩:=fV r1 hq;subst er;subst ei;obtain⟨v,av,wv,Fs,hw⟩:=kK hh wf hr ht;obtain⟨Gj,mz,_⟩:=aD.left Fs;obtain⟨k1,k2,k3⟩:=Bt mz wf hr ht;have WU: ∃G,(je g wv t.wt).holds w G:=by have h2:=aw hw (show _=aa (je g wv t.wt) (aa (dB x j v) (aa (dF g v.rv j.ring) (aa (dm g v.lv j.hp) (aa (hpA g j.hp) (aa (ji g j.c.re r.q av) (aa (iM g av r.q.id r.al) (aa (jF g t wv) (aa (jQ g j v r t) (rC tb s.out)))))))))by unfold jW;ac_rfl);obtain⟨G,hG,_⟩:=aD.left h2;exact⟨G,hG⟩
 obtain⟨G1,Bw⟩:=WU;have c1:w.cell? ⟨g.tp t.nm,1,none⟩=some wv:=(R6 hw).1 1;have bP:=wf.b1 t ht;have HC:=SY wv t.wt g.rp r.q.id w G1 Bw k1 k2 k3 (by omega);have ew:decide (r.q.id∈t.wt)=s.waits r.q.id:=by
  have h1:=St.qN hi (i:=r.q.id);rw[uY,<-r1.wt t ht]at h1;by_cases hm:r.q.id∈t.wt
  ·rw[h1.2 hm];simpa using hm
  ·have: ¬s.waits r.q.id=true:=fun e=>hm (h1.1 e);rw[Bool.not_eq_true]at this;rw[this];simpa using hm
 rw[ew]at HC;have c2:=RA.ten;rw[<-et]at c2;obtain⟨gY,cP,rfl⟩:=aJ (Goes.refl Bw);clear hh Fs hw mz k1 k2 k3 Bw RA hq;unfold pt at*;generalize g.rp r.q.id=rp at*;generalize g.tp t.nm=tp at*;generalize t.wt.length=nw at*;generalize s.waits r.q.id=bw at*;go_enter func128,ntmps128;go_wp2_with (first
  |(go_at_call 167;go_must(refine HC.mono ?_;rintro e w1⟨rfl,rfl⟩)))
 go_ret;exact⟨rfl,rfl⟩
theorem BW(s:St)(id:Int):s.count id=(s.nums id).length:=by unfold St.count St.nums;rw[aR,List.countP_eq_length_filter]
theorem tr(h:(stA base x tb g cn s).holds w F)(hi:Inv s)(hz:s.sz<=16777000){id:Int}{q:Rq}(hq:s.req id=some q):Calls prog 82 #[pt (g.rp id)] w fun e w'=>e= .returned (.bool (s.waits id||decide (0<s.count id)))∧w'=w:=by
 obtain⟨ao,cap,dz,cJ,RA⟩:=eZ h hi hz hq;have c7:=RA.al;have kA:=RA.y7.1;have HW:=GZ h hi hz hq;rw[BW];clear RA h;unfold pt at*;generalize g.rp id=rp at*;generalize(s.nums id).length=nn at*;have zQ:decide ((0:Int)<(nn:Int))=decide (0<nn):=by by_cases e:0<nn<;>simp[e]
 cases hw:s.waits id with
 |true=>
  rw[hw]at HW;go_enter func82,ntmps82;go_wp2_with (first
   |(go_at_call 128;go_must(refine HW.mono ?_;rintro e w1⟨rfl,rfl⟩)))
  go_ret;exact⟨rfl,rfl⟩
 |false=>
  rw[hw]at HW;go_enter func82,ntmps82;go_wp2_with (first
   |(go_at_call 128;go_must(refine HW.mono ?_;rintro e w1⟨rfl,rfl⟩)))
  go_ret;exact⟨by simp,rfl⟩
end
variable{base x tb n:Nat}{g:Gh}{cn:List (Int×Nat×Bs)}{s:St}{w:World}{F:Ft}
theorem jD(T:Tabs base w)(h:(stA base x tb g cn s).holds w F)(hz:s.sz<=16777000)(c:Int)(ps:List Part)(t:Bs)(ht:said ps=t)(Uh:0<ps.length)(hn:ps.length<=16)(yD: ∀p∈ps,p.ok): ∀nq,Calls prog 89 #[pt tb, .int .i64 c, .slice (some ⟨w.heap.size,0,none⟩) ps.length ps.length] ((w.alloc (.cells (ps.map Part.val).toArray 20)).drewN nq) fun e w'=>e= .returned (.tuple #[])∧Goes (stA base x tb g cn (s.say c t)) w F w':=fun nq=>x9 T h hz c ps t ht Uh hn yD (w.drewN nq) (pU (ar _ _) nq)
theorem K6(id:Int):said [.s [101,114,114], .n id]= [101,114,114,32]++a7 id:=by simp[said,Lib.join,Part.txt]
theorem Sd.bg(h:Sd n s)(id:Int)(f:Rq->Rq)(h1: ∀r,(f r).id=r.id∧(f r).ten=r.ten)(h2: ∀r,r.n<=(f r).n)(h3: ∀r,(f r).hedged=false->r.hedged=false)(h4: ∀r,r∈s.reqs->(r.id==id)=true->(f r).ok 4398046511104 s.wait.length):Sd n (s.bg id f):=
 ⟨St.jb h.inv id f h1,h.ok.bg id f (fun r=>(h1 r).1) h2 h3,by rw[St.mm];exact h.sz,h.bd.bg id f h4⟩
theorem vD(T:Tabs base w)(h:(stA base x tb g cn s).holds w F)(hs:Sd n s)(hn:n<=16775000){id:Int}{q:Rq}(hq:s.req id=some q)(hb:Busy s (fun y=>y=id)):Calls prog 67 #[pt x,pt tb,pt (g.rp id)] w fun e w'=>e= .returned (.tuple #[])∧Goes (stA base x tb g cn (s.again id true)) w F w':=by
 have hz:=hs.sz;have yv:=tr h hs.inv (by omega) hq;have tK:=cO hq;have O4:q.id=id:=by simpa using List.find?_some hq
 have kS:=hs.bd.rq q tK;have JG:=kS.left;have hre:=hs.bd.c.re;have Ma:=hide (Goes.refl h);cases bz:(s.waits id||decide (0<s.count id))with
 |true=>
  have ea:s.again id true=s:=by unfold St.again;rw[if_pos];simpa using bz
  rw[ea];rw[bz]at yv;clear h;unfold pt at*;generalize g.rp id=rp at*;go_enter func67,ntmps67;go_wp2_with (first
   |(go_at_call 82;go_must(refine yv.mono ?_;rintro e w1⟨rfl,rfl⟩)))
  go_end0;exact⟨rfl,Ma.out⟩
 |false=>
  rw[bz]at yv;obtain⟨ao,cap,dz,cJ,RA⟩:=eZ h hs.inv (by omega) hq;have c5:=RA.again;have cc:=RA.cc;have c0:=RA.ci;have c1:=RA.conn;have fz:=RA.fz 5;have RX: ¬((s.waits id||decide (0<s.count id))=true):=by rw[bz];simp
  by_cases hl:q.left=0
  ·have ea:s.again id true=(s.say q.conn ([101,114,114,32]++a7 id)).shut id:=by
    unfold St.again;rw[if_neg (by simpa using RX),hq];simp[hl]
   rw[ea];have jf:=hs.say q.conn ([101,114,114,32]++a7 id);have uJ:(s.say q.conn ([101,114,114,32]++a7 id)).req id=some q:=hq;have gj:=hide (jD T h (by omega) q.conn [.s [101,114,114], .n id] ([101,114,114,32]++a7 id) (K6 _) (by simp) (by simp) (by
    intro p hp;simp only[List.mem_cons,List.not_mem_nil,or_false]at hp;rcases hp with rfl|rfl
    ·exact Part.qD (by decide)
    ·exact Part.xV (tL (by rw[<-O4];exact kS.id))))
   have mV:Hid (∀w1,Goes (stA base x tb g cn (s.say q.conn ([101,114,114,32]++a7 id))) w F w1->w1.cell? ⟨g.rp id,0,none⟩=some (.int .i64 id)∧w1.cell? ⟨g.rp id,1,none⟩=some (.int .i64 q.conn)∧
     Calls prog 81 #[pt x,pt tb,pt (g.rp id)] w1 fun e w'=>e= .returned (.tuple #[])∧Goes (stA base x tb g cn ((s.say q.conn ([101,114,114,32]++a7 id)).shut id)) w F w'):=fun w1 hg=>by
    have T1:=T.goes (cr h) hg;obtain⟨F1,bU,o1,n1⟩:=hg;obtain⟨_,_,_,_,Y1⟩:=eZ bU jf.inv (by have:=jf.sz;omega) uJ;refine⟨Y1.ci,Y1.conn,(pz T1 bU jf (by omega) uJ (hb.say _ _)).mono ?_⟩;rintro e w'⟨rfl,iG⟩;exact⟨rfl,ay o1 n1 iG⟩
   rw[hl,Int.sub_zero]at c5;clear h RA Ma kS RX hb;unfold pt at*;generalize g.rp id=rp at*;generalize s.c.re=re at*;go_enter func67,ntmps67;go_wp2_with (first
    |(go_at_call 82;go_must(refine yv.mono ?_;rintro e w1⟨rfl,rfl⟩)))
   go_quiet (fail)
   go_wp2_with fail;go_region_held3 (fun w'=>w'.cell? ⟨rp,0,none⟩=some (.int .i64 id)∧w'.cell? ⟨rp,1,none⟩=some (.int .i64 q.conn)) (go_keep) (first
    |(go_at_call 89;go_must(refine(gj.out _).mono ?_;rintro e w5⟨rfl,fO⟩;obtain⟨z0,z1,z2⟩:=mV.out _ fO;have HZ2:=hide z2;clear fO z2)))
   all_goals
    go_wp2_with (first
     |(go_at_call 81;go_must(refine HZ2.out.mono ?_;rintro e w6⟨rfl,gM⟩;have yK:=hide gM;clear gM)))
    go_end0;exact⟨rfl,yK.out⟩
  ·have ea:s.again id true=(s.bg id (fun r=>{r with left:=r.left-1})).aT id true:=by
    unfold St.again;rw[if_neg (by simpa using RX),hq];simp[hl]
   rw[ea];have jf:Sd n (s.bg id (fun r=>{r with left:=r.left-1})):=hs.bg id _ (fun _=>⟨rfl,rfl⟩) (fun _=>Int.le_refl _) (fun _ h=>h) (fun r hr e=>by have:r=q:=Bd.KZ hs.inv hq hr e;subst this;exact⟨kS.id,kS.n,by show 0<=r.left-1∧r.left-1<=5;omega,kS.ten,kS.txt⟩)
   have uJ:(s.bg id (fun r=>{r with left:=r.left-1})).req id=some {q with left:=q.left-1}:=by rw[St.iZ hs.inv id id (fun r=>{r with left:=r.left-1}) (fun _=>rfl),hq];simp
   have HP:Hid (∀nq,Calls prog 83 #[pt x,pt (g.rp id)] ((w.setCell ⟨g.rp id,5,none⟩ (.int .i64 (s.c.re-q.left+1))).drewN nq) fun e w'=>e= .returned (.tuple #[])∧Goes (stA base x tb g cn ((s.bg id (fun r=>{r with left:=r.left-1})).aT id true)) w F w'):=fun nq=>by
    have hg:=KU T h hs.inv (by omega) hq (fun r=>{r with left:=r.left-1}) (fun _=>rfl) (fun _=>rfl) 5 (.int .i64 (s.c.re-q.left+1)) (fun av=>by
     have e1:s.c.re-(q.left-1)=s.c.re-q.left+1:=by omega
     unfold mD;dsimp only;rw[e1];rfl)
    have hg:=hg.drewN nq;have T1:=T.goes (cr h) hg;obtain⟨F1,bU,o1,n1⟩:=hg;refine(pG T1 bU jf.inv (by have:=jf.sz;omega) uJ).mono ?_;rintro e w'⟨rfl,iG⟩;exact⟨rfl,ay o1 n1 iG⟩
   have JE:decide (s.c.re<=s.c.re-q.left)=false:=by simp;omega
   clear h RA Ma kS RX hb;have hlb:1<=q.left:=by omega
   unfold pt at*;generalize g.rp id=rp at*;generalize s.c.re=re at*;generalize q.left=ql at*;go_enter func67,ntmps67;go_wp2_with (first
    |(go_at_call 82;go_must(refine yv.mono ?_;rintro e w1⟨rfl,rfl⟩)))
   go_quiet (fail)
   go_wp2_with (first
    |(go_at_call 83;go_must(refine(HP.out _).mono ?_;rintro e w6⟨rfl,gM⟩;have yK:=hide gM;clear gM)))
   go_end0;exact⟨rfl,yK.out⟩
end Pj
namespace Pj
open Go.RowKit aD Mc
variable{g:Gh}{k y:Int×Int}{p:Nat}{sr:Int}
def Gh.new(g:Gh)(k:Int×Int)(p:Nat)(sr:Int):Gh:={g with ap:=fun y=>if y=k then p else g.ap y,sr:=fun y=>if y=k then sr else g.sr y}
theorem Gh.QZ(g:Gh)(k:Int×Int)(p:Nat)(sr:Int):(g.new k p sr).ap k=p:=by simp[Gh.new]
theorem Gh.KC(g:Gh)(k:Int×Int)(p:Nat)(sr:Int):(g.new k p sr).sr k=sr:=by simp[Gh.new]
theorem Gh.xT(h:y≠k):(g.new k p sr).ap y=g.ap y:=by simp[Gh.new,h]
theorem Gh.su(h:y≠k):(g.new k p sr).sr y=g.sr y:=by simp[Gh.new,h]
theorem FH(x:Nat)(g:Gh)(j:Js)(v:Dv)(k:Int×Int)(p:Nat)(sr:Int)(h1: ∀b∈j.hp,key b≠k)(h2: ∀y∈j.reqs,∀n∈y.al,(y.q.id,n)≠k):aS x (g.new k p sr) j v=aS x g j v:=by
 have e1:all (dP (g.new k p sr) j.c.re) j.reqs=all (dP g j.c.re) j.reqs:=all_congr fun y hy=>by
  unfold dP;congr 1;funext av;have:iM (g.new k p sr) av y.q.id y.al=iM g av y.q.id y.al:=by unfold iM;congr 1;exact bu fun n hn=>by rw[Gh.xT (h2 y hy n hn)]
  rw[this];rfl
 have e2:dm (g.new k p sr) v.lv j.hp=dm g v.lv j.hp:=by unfold dm;congr 1;exact bu fun b hb=>by rw[Gh.xT (h1 b hb)]
 have e3:hpA (g.new k p sr) j.hp=hpA g j.hp:=all_congr fun y hy=>by
  have hb:y.1∈j.hp:=by obtain⟨b,i⟩:=y;have:=List.mem_zipIdx_iff_getElem?.1 hy;exact cK this
  show eN _ _ _=eN _ _ _;unfold eN kO;rw[Gh.xT (h1 _ hb),Gh.su (h1 _ hb)];rfl
 unfold aS;rw[e1,e2,e3];rfl
theorem QN(x:Nat)(g:Gh)(j:Js)(k:Int×Int)(p:Nat)(sr:Int)(h1: ∀b∈j.hp,key b≠k)(h2: ∀y∈j.reqs,∀n∈y.al,(y.q.id,n)≠k):jA x (g.new k p sr) j=jA x g j:=by unfold jA;congr 1;funext v;exact FH x g j v k p sr h1 h2
theorem Jx{hp:List At}{n:Nat}(h1: ∀b∈hp,key b≠k)(h:Hp.Heap (eT g) hp n):Hp.Heap (eT (g.new k p sr)) hp n:=by intro i h0 hn;intro a b ha hb;have h3:=h i h0 hn a b ha hb;have e1:=h1 a (cK ha);have e2:=h1 b (cK hb);unfold eT at h3⊢;rw[Gh.su e1,Gh.su e2];exact h3
