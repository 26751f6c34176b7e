import Derived.Test.YtffamlbkmjmipaaGreatDoorB17
set_option maxHeartbeats 8000000
set_option maxRecDepth 100000
namespace Go.Proofs.YtffamlbkmjmipaaGreatDoor
open _root_.Go.Proofs.Tryz
namespace Mr
open Go.RowKit aM Mc
attribute [local go_sem] aL.ag aL.ar
variable{p k:Nat}{s s':St}{w wr:World}{F:Ft}{c:Int}{ws:List Int}
structure gY(p:Nat)(s:St)(w:World)(F:Ft)(s':St)(wr:World):Prop where
 fine:Fine 16777000 s'
 goes:Goes (aU p s') w F wr
 rest: ∃f,s'.wait.length<=f∧s.serve=St.cS f s'
theorem gY.done(h:gY p s w F s' wr)(he:s'.wait= []∨s'.ring.findIdx? (fun l=>(s'.runs l.ten:Int)<s'.c.ca)=none):s.serve=s':=by
 obtain⟨f,_,e⟩:=h.rest;rw[e]
 match f with
 |0=>rfl
 |f+1=>
  unfold St.cS;rcases he with he|he
  ·rw[he]
  ·rw[he];split<;>rfl
theorem gY.next{w2:World}(h:gY p s w F s' wr)(hw:s'.wait=c::ws)(hk:s'.ring.findIdx? (fun l=>(s'.runs l.ten:Int)<s'.c.ca)=some k)(abd:(s'.give c ws k).wait=ws)(hg:Goes (aU p (s'.give c ws k)) w F w2):gY p s w F (s'.give c ws k) w2:=by
 obtain⟨f,hf,e⟩:=h.rest;refine⟨⟨St.lF h.fine.inv c ws (by rw[hw];exact List.sublist_cons_self ..) k,h.fine.bd.give hw k,aw (St.xr hw k) h.fine.sz⟩,hg, ?_⟩
 match f,hf,e with
 |0,hf,_=>rw[hw]at hf;simp at hf
 |f+1,hf,e=>
  refine⟨f,by rw[abd];rw[hw]at hf;simpa using hf, ?_⟩;rw[e]
  conv=>lhs;unfold St.cS
  rw[hw];dsimp only;rw[hk]
theorem SU{m:MV}{g:List (Ln×Value)}{g6 off cap:Nat}(az:(aI p s m g).holds w F)(zJ:m.rv= .slice (some ⟨g6,off,none⟩) s.reqs.length cap): ∃G,(mz m.av s.af).holds w G∧ ¬G p∧ ¬G g6:=by rw[oQ]at az;obtain⟨X,Y,hx,⟨B,Z,hb,⟨R,_,hr,_,_,ez⟩,_,ey⟩,d,_⟩:=az;refine⟨X,hx,fun h=>d p h ((ey p).2 (.inl ((hb.2 p).2 rfl))),fun h=>d g6 h ((ey g6).2 (.inr ((ez g6).2 (.inl ?_))))⟩;rw[zJ]at hr;exact(dK hr).2
theorem TC{j:Nat}{l:Ln}{id:Int}{ids:List Int}(hk:s.ring[k]?=some l)(wR:l.ids=id::ids)(hj:s.reqs.findIdx? (·.id==id)=some j)(eP:j<s.reqs.length):s.give c ws k=({s with wait:=ws,ring:=s.ring.eraseIdx k++St.rest l,reqs:=s.reqs.set j {s.reqs[j]'eP with n:=(s.reqs[j]'eP).n+1},af:=s.af++ [⟨id,(s.reqs[j]'eP).n+1,c,s.now,s.now+s.c.le⟩],begun:=s.begun+1}:St).say c (St.runText (s.reqs[j]'eP) ((s.reqs[j]'eP).n+1)):=by obtain⟨_,_,hr,_⟩:=qh hj;have Aj:=sW hj (fun r=>{r with n:=r.n+1}) eP;unfold St.bu at Aj;have e:=(St.mk.inj Aj).2.2.1;unfold St.give;rw[hk];dsimp only;rw[wR];dsimp only[List.head?_cons];rw[hr];dsimp only;rw[e]
theorem fZ.drewN{e:Ending}{w':World}(h:fZ p s w F e w')(n:Nat):fZ p s w F e (w'.drewN n):=⟨h.1,h.2.drewN n⟩
set_option linter.unusedSimpArgs false in
theorem vE(p:Nat)(s:St)(hv:Fine 16777000 s)(w:World)(F:Ft)(hm:(aU p s).holds w F):Calls prog 110 #[.pointer (some ⟨p,0,none⟩)] w (fZ p s.serve w F):=by
 have uN:Hid (gY p s w F s w):=⟨hv,Goes.refl hm,⟨_,ae _,rfl⟩⟩;clear hv hm;go_enter func110,ntmps110;go_wp2;go_loopw [] (fun wr=> ∃s':St,Hid (gY p s w F s' wr)) (fun wr=>Gy p wr)
 case atStart=>exact⟨s,uN⟩
 case round=>
  obtain⟨s',gB⟩:=hrel;have hl:=gB.out.fine.lens;obtain⟨F1,cd,o1,n1⟩:=gB.out.goes;obtain⟨m,g,hr,az⟩:=bD cd;have dU:=bR hr az;have wI:=hide (Gz dU);obtain⟨ao,cap,G,c9,HG,fT⟩:=dU.RR;have HM:=hide dU;have HR:=hide hr;have HO:Hid (Goes (aI p s' m g) w F wr):=⟨F1,az,o1,n1⟩;have R4:=hide az;clear cd o1 n1 hr az dU;cases om:s'.wait with
  |nil=>have HX:Hid (fZ p s.serve w F (.returned (.tuple #[])) wr):=⟨rfl,by rw[gB.out.done (Or.inl om)];exact gB.out.goes⟩;rw[om]at c9;clear gB HG fT;go_wp2;go_end0;exact HX.out
  |cons c ws=>
   have gS:s'.wait.length=ws.length+1:=by rw[om];rfl
   rw[gS]at c9 fT;have j7:(0:Int)<((ws.length:Nat):Int)+1:=by omega
   obtain⟨gw,QN,rfl⟩:=fT.out (by omega);obtain⟨VK,tD,G8,Io,c8,Y3,Zw⟩:=vq HM.out;have NJ:=hide Io;have c2:wr.cell? ⟨p,2,none⟩=some (.int .i64 s'.c.ca):=HM.out.cell 2;have dc:=HM.out.lt;have sG:g.length<=16777000:=by have h1:=St.kg gB.out.fine.inv;rw[<-HR.out,bf]at h1;omega
   have C8:Hid (∀(t:Bs) (w':World),Below wr.heap.size wr w'->Calls prog 148 #[.pointer (some ⟨p,0,none⟩), .string ⟨t.toArray⟩] w' fun e dV=>e= .returned (.int .i64 (s'.runs t))∧Below w'.heap.size w' dV):=fun t w' hb=>Rc p t s' gB.out.fine.inv m g w' (HM.out.below hb) (by omega) (by omega);have SM:=hide om;have Y2:Hid (∀b,s'.ring.findIdx? (fun l=>(s'.runs l.ten:Int)<s'.c.ca)=b↔g.findIdx? (fun x=>decide ((s'.runs x.1.ten:Int)<s'.c.ca))=b):=fun b=>by rw[<-HR.out,List.findIdx?_map];rfl
   clear Io om;go_wp2;go_loopw [2] (fun i w2=> ∃k:Nat,k<=g.length∧i= .int .i64 k∧Hid (k<=g.findIdx (fun x=>decide ((s'.runs x.1.ten:Int)<s'.c.ca)))∧Below wr.heap.size wr w2) (fun i _=>g.length-(intOf i).toNat)
   case atStart=>exact⟨0,aJ _,rfl,aJ _,ah _ _⟩
   case round=>
    rename World=>wi
    obtain⟨k,hk,rfl,HI,Zg⟩:=hrel;have d8:wi.cell? ⟨p,8,none⟩=some (.slice VK g.length tD):=by rw[Zg.cell (p:=⟨p,8,none⟩) dc];exact c8
    have d2:wi.cell? ⟨p,2,none⟩=some (.int .i64 s'.c.ca):=by rw[Zg.cell (p:=⟨p,2,none⟩) dc];exact c2
    by_cases ay:k<g.length
    ·obtain⟨g1,off,rfl⟩:=Zw.out (by omega);obtain⟨e0,e1⟩:=j9 (au Y3.out Zg) ay;have Sc:(0:Int)<=((k:Nat):Int):=by omega
     have BO:((k:Nat):Int)<((g.length:Nat):Int):=by omega
     have HS:Hid (∀w',Below wr.heap.size wr w'->w'.cell? ⟨p,8,none⟩=some (.slice (some ⟨g1,off,none⟩) g.length tD)∧w'.cell? ⟨g1,off+k*2,none⟩=some (.string ⟨(g[k]'ay).1.ten.toArray⟩)∧w'.cell? ⟨p,2,none⟩=some (.int .i64 s'.c.ca)):=fun w' hb=>⟨by rw[hb.cell (p:=⟨p,8,none⟩) dc];exact c8,(j9 (au Y3.out hb) ay).1,by rw[hb.cell (p:=⟨p,2,none⟩) dc];exact c2⟩;have HBi:=hide Zg;clear Zg;go_wp2_with fail;go_region_held3 (fun w'=>w'.cell? ⟨p,8,none⟩=some (.slice (some ⟨g1,off,none⟩) g.length tD)∧w'.cell? ⟨g1,off+k*2,none⟩=some (.string ⟨(g[k]'ay).1.ten.toArray⟩)∧w'.cell? ⟨p,2,none⟩=some (.int .i64 s'.c.ca)) (go_keep)
      (first|(go_at_call 148;refine(C8.out _ _ (by first|exact HBi.out.drew|assumption)).mono ?_;rintro e w4⟨rfl,l9⟩;have pI:=bj (wr:=wr) (by first|exact HBi.out.drew|assumption) l9;obtain⟨s1,s2,s3⟩:=HS.out _ pI))
     all_goals
      by_cases hq:(s'.runs (g[k]'ay).1.ten:Int)<s'.c.ca
      ·have uJ:=jF ay (by simpa using hq) HI.out;have hfr:=(Y2.out (some k)).2 uJ;obtain⟨id,ids,wR⟩: ∃id ids,(g[k]'ay).1.ids=id::ids:=by
        have h1:=(gB.out.fine.inv.ring (g[k]'ay).1 (by rw[<-HR.out];exact aA.2 ⟨_,aY ay,rfl⟩)).1;cases h2:(g[k]'ay).1.ids with
        |nil=>exact absurd h2 h1
        |cons a b=>exact⟨a,b,rfl⟩
       have aaP:id∈s'.ks.map (·.1):=St.lM ((gB.out.fine.inv.ring (g[k]'ay).1 (by rw[<-HR.out];exact aA.2 ⟨_,aY ay,rfl⟩)).2 id (by rw[wR];exact dy ..));have HKS:=hide aaP;have hrk:s'.ring[k]?=some (g[k]'ay).1:=by rw[<-HR.out,List.getElem?_map,a7 ay];rfl
       have HRK:=hide hrk;have K7:=hide wR;have HFR:=hide hfr;have Hd:=hide pI;have R3:=hide (HO.out.below pI);obtain⟨F4,th,o4,n4⟩:=R3.out;have HO4:=hide th;have TZ:=bR HR.out th;obtain⟨G9,hG9⟩:=TZ.wt;have x9:w4.cell? ⟨p,9,none⟩=some (.slice (some ⟨gw,QN,none⟩) (ws.length+1) cap):=by rw[pI.cell (p:=⟨p,9,none⟩) dc];exact c9
       have N4:m.wv= .slice (some ⟨gw,QN,none⟩) (ws.length+1) cap:=Option.some.inj ((TZ.cell 9).symm.trans x9);rw[N4,SM.out]at hG9;have x0:w4.cell? ⟨gw,QN,none⟩=some (.int .i64 c):=by have:=qQ (l:=c::ws) (k:=0) hG9 (by simp);simpa using this
       have dF:ws.length+1<=cap:=by obtain⟨_,_,e,h,_⟩:=bC hG9;cases e;exact h
       have HWV:=hide N4;have xf9:w4.frozen? ⟨p,9,none⟩=false:=TZ.frozen 9;have cC: ¬((k:Int)=(g.length:Int)):=by omega
       clear th o4 n4 TZ hG9 N4 wR aaP hrk hfr uJ HI pI l9 HO R4 HM HG fT Zw C8 Y2 uN;clear c9 c8 c2 d8 d2 e0 e1 HS;obtain⟨a9,TS⟩: ∃a9,(if cap=1 then(some ⟨gw,QN,none⟩:Option Addr)else some ⟨gw,QN+1,none⟩)=a9:=⟨_,rfl⟩;have xf:Hid (Goes (aI p {s' with wait:=ws} {m with wv:= .slice a9 ws.length (cap-1)} g) w F (w4.setCell ⟨p,9,none⟩ (.slice a9 ws.length (cap-1)))):=Goes.trans R3.out fun F' dR=>by
        rw[bF dR HO4.out];refine Vt HO4.out SM.out HWV.out ?_;by_cases h:cap=1
        ·rw[if_pos h]at TS;exact .inr ⟨h,by rw[<-TS,h,show ws.length=0 by omega]⟩
        ·rw[if_neg h]at TS;exact .inl (by rw[<-TS])
       have CU: ∀b,b≠p->(w4.setCell ⟨p,9,none⟩ (.slice a9 ws.length (cap-1))).heap[b]?=w4.heap[b]?:=fun b hb=>heap_setCell_other w4 ⟨p,9,none⟩ b _ hb;obtain⟨F5,nZ,o5,n5⟩:=xf.out;have Z0:=hide nZ;have BR:=bR (s:={s' with wait:=ws}) HR.out nZ;have WG:=hide BR;obtain⟨G8',Ps⟩:=BR.ln;have XI:({m with wv:= .slice a9 ws.length (cap-1)}:MV).gv= .slice (some ⟨g1,off,none⟩) g.length tD:=NJ.out;rw[XI]at Ps;obtain⟨y0,y1⟩:=j9 Ps ay;have y8:(w4.setCell ⟨p,9,none⟩ (.slice a9 ws.length (cap-1))).cell? ⟨p,8,none⟩=some (.slice (some ⟨g1,off,none⟩) g.length tD):=(BR.cell 8).trans (congrArg some XI);have SB:=hide Ps;obtain⟨w5,Ug⟩: ∃w5,w5=w4.setCell ⟨p,9,none⟩ (.slice a9 ws.length (cap-1)):=⟨_,rfl⟩;have HW5:=hide Ug;have ada:g.length<=tD:=by obtain⟨_,_,e,h,_⟩:=bC Ps;cases e;exact h
       obtain⟨Gk,Xq⟩:=BR.Wm (g[k]'ay) (aY ay);obtain⟨aok,js,Si,Xr,Xj⟩:=yL Xq;rw[K7.out]at Xr Xj Si;obtain⟨gk,mZ,rfl⟩:=Xj.out (by simp);have Yb:(g[k]'ay).2= .slice (some ⟨gk,mZ,none⟩) (ids.length+1) js:=Si;rw[Yb]at y1;have HVK:=hide Yb;have Y5:Hid ((inA (.slice (some ⟨gk,mZ,none⟩) (ids.length+1) js) (id::ids)).holds (w4.setCell ⟨p,9,none⟩ (.slice a9 ws.length (cap-1))) Gk):=Xr.out;have V6:p<w4.heap.size:=by have:=Hd.out.size;omega
       have acx:gk<w4.heap.size:=by have:=(dK Y5.out).1;simpa[World.setCell]using this
       have aaK:g1<w4.heap.size:=by have:=(dK SB.out).1;simpa[World.setCell]using this
       obtain⟨o6,ho6⟩: ∃o6,o6=Obj.cells #[.string ⟨(g[k]'ay).1.ten.toArray⟩, .slice (some ⟨gk,mZ,none⟩) (ids.length+1) js] 176 (0,0):=⟨_,rfl⟩;have hz5:(w4.setCell ⟨p,9,none⟩ (.slice a9 ws.length (cap-1))).heap.size=w4.heap.size:=by simp[World.setCell]
       have HW6:Hid (Below w4.heap.size (w4.setCell ⟨p,9,none⟩ (.slice a9 ws.length (cap-1))) ((w4.setCell ⟨p,9,none⟩ (.slice a9 ws.length (cap-1))).alloc o6)):=by have:=(ah (w4.setCell ⟨p,9,none⟩ (.slice a9 ws.length (cap-1))).heap.size (w4.setCell ⟨p,9,none⟩ (.slice a9 ws.length (cap-1)))).alloc (ae _) o6;rw[hz5]at this;exact this
       have JU:Hid (∀j u,(flat eN (g.take k))[j]?=some u->((w4.setCell ⟨p,9,none⟩ (.slice a9 ws.length (cap-1))).alloc o6).cell? ((⟨g1,off,none⟩:Addr).add j)=some u):=by have h:=il SB.out 0 k (by omega);rw[Nat.zero_mul,Nat.add_zero,List.drop_zero,uY gU _ _ (by omega)]at h;intro j u hu;rw[HW6.out.cell (p:=(⟨g1,off,none⟩:Addr).add j) (by rw[Addr.add_lit];exact aaK)];exact h j u hu
       have wS: ∀l:List (Ln×Value),(∀x∈l,x.2.oneCell'=true)-> ∀u∈flat eN l,u.oneCell'=true:=fun l hl u hu=>by
        obtain⟨x,hx,h⟩:=List.mem_flatMap.1 hu;simp only[eN,List.mem_cons,List.mem_nil_iff,or_false]at h;rcases h with rfl|rfl
        ·rfl
        ·exact hl x hx
       have zK: ∀x∈g,x.2.oneCell'=true:=fun x hx=>by obtain⟨G,hG⟩:=WG.out.Wm x hx;obtain⟨_,_,e,_⟩:=bC hG;rw[e];rfl
       have zP:Hid (∀l:List (Ln×Value),(∀x∈l,x∈g)-> ∀u∈flat eN l,u.oneCell'=true):=fun l hl=>wS l (fun x hx=>zK x (hl x hx));have sH:((k:Nat):Int)<=((tD:Nat):Int):=by omega
       subst ho6;clear nZ o5 n5 BR Ps XI CU R3 HO4 Ug Xq Xr Xj Si Yb wS zK;obtain⟨j0,hj,PY,PZ,P0⟩:=info_parts IH;go_wp2_with (at_builtin;go_must(refine aC _ rfl _ _ 159 rfl 176 j0 (.agg #[.string ⟨#[]⟩, .slice none 0 0]) 2 40 underlying159 hj PY PZ P0 rfl (by decide) (F:=fun _=>False) _ 0 [] rfl (dS _ _ _ (fun _ h=>h)) ⟨g1,off,none⟩ k tD (flat eN (g.take k)) rfl (by rw[dE gU,List.length_take,Nat.min_eq_left (by omega)]) JU.out (zP.out _ (fun x hx=>List.mem_of_mem_take hx)) (by unfold maxLen;omega) (by omega) ?main))
       case main=>
        intro dP eQ w7 qa;obtain⟨w5,Ug⟩: ∃w5,w5=w4.setCell ⟨p,9,none⟩ (.slice a9 ws.length (cap-1)):=⟨_,rfl⟩;rw[<-Ug]at qa xf Z0 WG SB Y5 HW6 JU hz5;clear Ug y0 y1 y8 x9 x0 xf9;have zO:=hide qa;have hB1:=qa.toBelow;have hW7:Below w4.heap.size w5 w7:=HW6.out.trans (hB1.mono (by simp;omega));have px:w7.heap[w4.heap.size]?=some (.cells #[.string ⟨(g[k]'ay).1.ten.toArray⟩, .slice (some ⟨gk,mZ,none⟩) (ids.length+1) js] 176 (0,0)):=by rw[hB1.block _ (by simp;omega)];have:=heap_alloc_new w5 (.cells #[.string ⟨(g[k]'ay).1.ten.toArray⟩, .slice (some ⟨gk,mZ,none⟩) (ids.length+1) js] 176);rw[hz5]at this;exact this
        have q8:w7.cell? ⟨p,8,none⟩=some (.slice (some ⟨g1,off,none⟩) g.length tD):=by rw[hW7.cell (p:=⟨p,8,none⟩) V6];exact(WG.out.cell 8).trans (congrArg some NJ.out)
        obtain⟨G1,lH,o1,n1⟩:=qa;have uL:=hide lH;have WI:=hide n1;have wJ:Hid (∀j u,(flat eN (g.drop (k+1)))[j]?=some u->w7.cell? ((⟨g1,off+(k+1)*2,none⟩:Addr).add j)=some u):=by have h:=il SB.out (k+1) (g.length-(k+1)) (by omega);rw[uX gU _ _ (by omega),List.take_of_length_le (by rw[dE gU,List.length_drop];exact ae _)]at h;intro j u hu;rw[hW7.cell (p:=(⟨g1,off+(k+1)*2,none⟩:Addr).add j) (by rw[Addr.add_lit];exact aaK)];exact h j u hu
        obtain⟨ad,aaR,jy⟩: ∃ad:Addr,(if tD=k+1 then(some ⟨g1,off,none⟩:Option Addr)else some ⟨g1,off+(k+1)*2,none⟩)=some ad∧Hid (∀j u,(flat eN (g.drop (k+1)))[j]?=some u->w7.cell? (ad.add j)=some u):=by
         by_cases h:tD=k+1
         ·refine⟨⟨g1,off,none⟩,if_pos h,fun j u hu=> ?_⟩;rw[List.drop_of_length_le (by omega)]at hu;simp[flat]at hu
         ·exact⟨_,if_neg h,wJ.out⟩
        have adF:((k:Nat):Int)+1<=((g.length:Nat):Int):=by omega
        clear lH o1 n1 hB1 JU wJ;go_wp2_with (at_builtin;go_must(refine aC _ rfl _ _ 159 rfl 176 j0 (.agg #[.string ⟨#[]⟩, .slice none 0 0]) 2 40 underlying159 hj PY PZ P0 rfl (by decide) (F:=G1) _ k (flat eN (g.take k)) rfl uL.out ad (g.length-(k+1)) (tD-(k+1)) (flat eN (g.drop (k+1))) rfl (by rw[dE gU,List.length_drop]) jy.out (zP.out _ (fun x hx=>List.mem_of_mem_drop hx)) (by unfold maxLen;omega) (by omega) ?tY))
        case tY=>
         intro cU gz w8 gQ;have TR:=zO.out.trans fun F' dR=>by rw[eO dR uL.out];exact gQ
         rw[<-pW,pU]at TR;have Ob:=hide TR;have hB8:=TR.toBelow;have hW8:Below w4.heap.size w5 w8:=HW6.out.trans (hB8.mono (by simp;omega));have HW8:=hide hW8;have Xv:w8.heap[w4.heap.size]?=some (.cells #[.string ⟨(g[k]'ay).1.ten.toArray⟩, .slice (some ⟨gk,mZ,none⟩) (ids.length+1) js] 176 (0,0)):=by rw[hB8.block _ (by simp;omega)];have:=heap_alloc_new w5 (.cells #[.string ⟨(g[k]'ay).1.ten.toArray⟩, .slice (some ⟨gk,mZ,none⟩) (ids.length+1) js] 176);rw[hz5]at this;exact this
         have b0:w8.cell? ⟨w4.heap.size,0,none⟩=some (.string ⟨(g[k]'ay).1.ten.toArray⟩):=bg Xv;have b1:w8.cell? ⟨w4.heap.size,1,none⟩=some (.slice (some ⟨gk,mZ,none⟩) (ids.length+1) js):=bg Xv;have bi:w8.cell? ⟨gk,mZ,none⟩=some (.int .i64 id):=by rw[hW8.cell (p:=⟨gk,mZ,none⟩) acx];have:=qQ (l:=id::ids) (k:=0) Y5.out (by simp);simpa using this
         have hn8:k+(g.length-(k+1))=(g.eraseIdx k).length:=by rw[List.length_eraseIdx,if_pos ay];omega
         have HN8:=hide hn8;clear gQ TR hB8 hW8 px Xv hW7 q8 aaR hn8 zO jy;have k8:w8.cell? ⟨p,8,none⟩=some (.slice (some ⟨g1,off,none⟩) g.length tD):=by rw[HW8.out.cell (p:=⟨p,8,none⟩) V6];exact(WG.out.cell 8).trans (congrArg some NJ.out)
         have kf8:w8.frozen? ⟨p,8,none⟩=false:=by rw[HW8.out.frozen (p:=⟨p,8,none⟩) V6];exact WG.out.frozen 8
         have JZ:Hid (∀(v vr:Value) (w9:World),Goes (rowA 176 2 vr (g.eraseIdx k++gG (g[k]'ay).1 v).length (flat eN (g.eraseIdx k++gG (g[k]'ay).1 v))) (w5.alloc (.cells #[.string ⟨(g[k]'ay).1.ten.toArray⟩, .slice (some ⟨gk,mZ,none⟩) (ids.length+1) js] 176)) (fun _=>False) w9->(ids≠ []->(inA v ids).holds w5 Gk)->
           ∃m2 g2,g2.map (·.1)=s'.ring.eraseIdx k++St.rest (g[k]'ay).1∧Goes (aI p {s' with wait:=ws,ring:=s'.ring.eraseIdx k++St.rest (g[k]'ay).1} m2 g2) w F (w9.setCell ⟨p,8,none⟩ vr)):=fun v vr w9 bK hv=>by
          have acA:Goes (rowA 176 2 vr (g.eraseIdx k++gG (g[k]'ay).1 v).length (flat eN (g.eraseIdx k++gG (g[k]'ay).1 v))) w5 (fun _=>False) w9:=
           Goes.trans (A:=emp) (Goes.dt (Goes.refl (fun _ h=>h)) _) fun F' dR=>by have e:F'=fun _=>False:=funext fun q=>propext ⟨fun h=>dR q h,False.elim⟩;rw[e];exact bK
          obtain⟨hx,jI⟩:=LS (s:={s' with wait:=ws}) ay HR.out Z0.out (v:=v) (vr:=vr) (fun G hG ⟨i,r,e,cC⟩=>by
           rw[K7.out]at e hG;cases e;refine⟨id,ids,K7.out, ?_⟩;have e2:G=Gk:=by rw[HVK.out]at hG;exact eO hG Y5.out
           rw[e2];exact hv cC) acA
          exact⟨_,_,jI,Goes.trans xf.out fun F' dR=>by rw[bF dR Z0.out];exact hx⟩
         cases Eb:ids;subst Eb;obtain⟨m2,g2,xB,hg9⟩:=JZ.out (.slice none 0 0) (.slice cU (k+(g.length-(k+1))) gz) w8 (by
          have e:gG (g[k]'ay).1 (.slice none 0 0)= []:=by unfold gG St.rest;rw[K7.out];rfl
          rw[e,List.append_nil,<-HN8.out];exact Ob.out) (fun h=>absurd rfl h)
         have Y4:=hide hg9;have C7:=hide xB;clear hg9 xB JZ Ob;go_wp2_with fail;obtain⟨w9,Ye⟩: ∃w9,w9=w8.setCell ⟨p,8,none⟩ (.slice cU (k+(g.length-(k+1))) gz):=⟨_,rfl⟩;rw[<-Ye];rw[<-Ye]at Y4;clear Ye;rotate_left;obtain⟨ak,aaS⟩: ∃ak,(if js=1 then(some ⟨gk,mZ,none⟩:Option Addr)else some ⟨gk,mZ+1,none⟩)=ak:=⟨_,rfl⟩;have hk8:(1:Int)<((ids.length:Nat):Int)+1:=by rw[Eb];simp;omega
         have cC:ids≠ []:=by rw[Eb];simp
         have ZP:=hide Eb;have adk:(0:Int)<((ids.length:Nat):Int)+1:=by omega
         clear Eb;obtain⟨Gr,kG,Jf,GZ⟩:=Ob.out;have HGR:=hide kG;have adb:ids.length+1<=js:=by obtain⟨_,_,e,h,_⟩:=bC Y5.out;cases e;exact h
         have hlp:0<ids.length:=List.length_pos_iff.2 cC;have hHV:(inA (.slice ak ids.length (js-1)) ids).holds w5 Gk:=by rw[if_neg (by omega)]at aaS;rw[<-aaS];have h1:=ll Y5.out 1 (by simp);unfold inA;simpa[flat,mY]using h1
         have HHV:=hide hHV;have hs6: ∀o:Obj,(w5.alloc o).heap.size=w4.heap.size+1:=fun o=>by simp[hz5]
         have aaC: ¬Gr w4.heap.size:=fun h=>by
          rcases GZ _ h with h|h
          ·exact h
          ·rw[hs6]at h;omega
         have aa3: ¬Gr p:=fun h=>by
          rcases GZ _ h with h|h
          ·exact h
          ·rw[hs6]at h;omega
         have Zy:=hide aaC;have Z4:=hide aa3;have abb:w4.heap.size<w8.heap.size:=by have:=Jf.size;rw[hs6]at this;omega
         have hp8:p<w8.heap.size:=by omega
         have hnl:(g.eraseIdx k).length+1<=16777001:=by rw[List.length_eraseIdx,if_pos ay];omega
         have aav:(rowA 176 2 (.slice cU (k+(g.length-(k+1))) gz) (k+(g.length-(k+1))) (flat eN (g.eraseIdx k))).holds w8 Gr:=kG;have ZK:=hide aav;have hk9:k+(g.length-(k+1))+1<=16777001:=by omega
         have hlc:(1:Int)<=((ids.length:Nat):Int)+1:=by omega
         clear kG aav Jf GZ aaC aa3 hHV cC hs6;go_wp2_with fail
         focus go_region_held3 (fun w'=>w'.cell? ⟨w4.heap.size,0,none⟩=some (.string ⟨(g[k]'ay).1.ten.toArray⟩)∧w'.cell? ⟨w4.heap.size,1,none⟩=some (.slice (some ⟨gk,mZ,none⟩) (ids.length+1) js)) (go_keep)
          (first
           |(refine fe _ (by rfl) _ _ _ (by rfl) 176 j0 _ 2 40 underlying159 hj PY PZ P0 rfl (by omega) (F:=Gr) _ (k+(g.length-(k+1))) (flat eN (g.eraseIdx k)) (by rfl) (au ZK.out ((ah _ _).alloc (ae _) _).drew) ⟨w8.heap.size,0,none⟩ 1 1 [.string ⟨(g[k]'ay).1.ten.toArray⟩, .slice ak ids.length (js-1)] (by rfl) (by rfl) (World.news_of_block (cs:= #[.string ⟨(g[k]'ay).1.ten.toArray⟩, .slice ak ids.length (js-1)]) (t:=176) (fr:=(0,0)) (heap_alloc_new w8 _)) (by simp[Value.oneCell']) (by unfold maxLen;omega) (by omega) ?_;intro iN Tf w9 Mb
             have NU:w4.heap.size<((w8.alloc (.cells #[.string ⟨(g[k]'ay).1.ten.toArray⟩, .slice ak ids.length (js-1)] 176)).drew).heap.size:=by simp;omega
             have CZ:p<((w8.alloc (.cells #[.string ⟨(g[k]'ay).1.ten.toArray⟩, .slice ak ids.length (js-1)] 176)).drew).heap.size:=by simp;omega
             have n0:w9.cell? ⟨w4.heap.size,0,none⟩=some (.string ⟨(g[k]'ay).1.ten.toArray⟩):=(Mb.only.cell (p:=⟨w4.heap.size,0,none⟩) NU Zy.out).trans (((((ah w8.heap.size w8).alloc (ae _) _).drew).cell (p:=⟨w4.heap.size,0,none⟩) abb).trans b0);have n1:w9.cell? ⟨w4.heap.size,1,none⟩=some (.slice (some ⟨gk,mZ,none⟩) (ids.length+1) js):=(Mb.only.cell (p:=⟨w4.heap.size,1,none⟩) NU Zy.out).trans (((((ah w8.heap.size w8).alloc (ae _) _).drew).cell (p:=⟨w4.heap.size,1,none⟩) abb).trans b1);have n8:w9.cell? ⟨p,8,none⟩=some (.slice (some ⟨g1,off,none⟩) g.length tD):=(Mb.only.cell (p:=⟨p,8,none⟩) CZ Z4.out).trans (((((ah w8.heap.size w8).alloc (ae _) _).drew).cell (p:=⟨p,8,none⟩) hp8).trans k8);have nf:w9.frozen? ⟨p,8,none⟩=false:=(Mb.only.frozen (p:=⟨p,8,none⟩) CZ Z4.out).trans (((((ah w8.heap.size w8).alloc (ae _) _).drew).frozen (p:=⟨p,8,none⟩) hp8).trans kf8)))
         obtain⟨m2,g2,xB,hg9⟩:=JZ.out (.slice ak ids.length (js-1)) (.slice iN (k+(g.length-(k+1))+1) Tf) w9 (by
          have e:gG (g[k]'ay).1 (.slice ak ids.length (js-1))= [(⟨(g[k]'ay).1.ten,ids⟩, .slice ak ids.length (js-1))]:=by unfold gG St.rest;rw[K7.out,ZP.out];rfl
          rw[e,dL,aN,<-HN8.out];exact Goes.trans (Ob.out.dt _).drew fun F' dR=>by rw[eO dR (au ZK.out ((ah _ _).alloc (ae _) _).drew)];exact Mb) (fun _=>HHV.out)
         have Y4:=hide hg9;have C7:=hide xB;clear hg9 xB JZ Ob Mb;go_wp2_with fail;obtain⟨w9',Ye⟩: ∃w9',w9'=w9.setCell ⟨p,8,none⟩ (.slice iN (k+(g.length-(k+1))+1) Tf):=⟨_,rfl⟩;rw[<-Ye];rw[<-Ye]at Y4;clear Ye n0 n1 n8 nf
         rename World=>w9
         all_goals
          obtain⟨j,PI⟩:=oM HKS.out;obtain⟨eP,yF,Sb,_⟩:=qh PI;have zI:=gB.out.fine.bd.rq (s'.reqs[j]'eP) (aY eP);have hcb:=gB.out.fine.bd.c;have Sg:=gB.out.fine.bd.now;have ZC:=hide (TC (c:=c) (ws:=ws) HRK.out K7.out PI eP);obtain⟨F9,hF9,o9,n9⟩:=Y4.out;have XS:=bR (s:={s' with wait:=ws,ring:=s'.ring.eraseIdx k++St.rest (g[k]'ay).1}) C7.out hF9;obtain⟨g6,ke,yc,zJ,iJ,⟨G6,zG⟩,c6⟩:=FK XS (show 0<s'.reqs.length by omega);have HO9:=hide hF9;have VF:=hide zJ;have hp9:=XS.lt;have rA:Hid (∀w':World,w'.heap=w9.heap->Calls prog 106 #[.pointer (some ⟨p,0,none⟩), .int .i64 id] w' fun e dV=>e= .returned (.int .i64 j)∧Below w'.heap.size w' dV):=fun w' he=>by have h:=mK p id {s' with wait:=ws,ring:=s'.ring.eraseIdx k++St.rest (g[k]'ay).1} m2 g2 w' (XS.heap he) (by show s'.reqs.length<=_;omega);rw[show({s' with wait:=ws,ring:=s'.ring.eraseIdx k++St.rest (g[k]'ay).1}:St).reqs=s'.reqs from rfl,PI]at h;exact h
          have hj0:(0:Int)<=((j:Nat):Int):=by omega
          have TU:((j:Nat):Int)<((s'.reqs.length:Nat):Int):=by omega
          have R8:w9.cell? ⟨p,6,none⟩=some (.slice (some ⟨g6,ke,none⟩) s'.reqs.length yc):=c6;clear hF9 o9 n9 XS zJ zG PI c6;go_region_held3 (fun w'=>w'.cell? ⟨p,6,none⟩=some (.slice (some ⟨g6,ke,none⟩) s'.reqs.length yc)) (go_keep)
           (first|(go_at_call 106;refine(rA.out w9.drew rfl).mono ?_;rintro e w10⟨rfl,Xu⟩;have k6:=(Xu.cell (p:=⟨p,6,none⟩) hp9).trans R8))
          all_goals
           have Xk:Below w9.heap.size w9 w10:=(ah w9.heap.size w9).drew.trans Xu;have KE:=au HO9.out Xk;have ZH:=hide (Y4.out.below Xk);have aaZ:=bR (s:={s' with wait:=ws,ring:=s'.ring.eraseIdx k++St.rest (g[k]'ay).1}) C7.out KE;obtain⟨G6,zG⟩:=aaZ.rq;rw[VF.out]at zG;obtain⟨-,-,-,-,v4,-,-⟩:=fH (l:=s'.reqs) zG eP;have vf:=bV zG (ke+j*7+4);have Sj:IntKind.i64.wrap ((s'.reqs[j]'eP).n+1)=(s'.reqs[j]'eP).n+1:=by rw[IntKind.wrap_i64];have:=zI.n;omega
           have VV:=Jv KE VF.out eP (j:=4) (by omega) (.int .i64 ((s'.reqs[j]'eP).n+1)) {s'.reqs[j]'eP with n:=(s'.reqs[j]'eP).n+1} rfl;have Oa:Hid (Goes (aI p {s' with wait:=ws,ring:=s'.ring.eraseIdx k++St.rest (g[k]'ay).1,reqs:=s'.reqs.set j {s'.reqs[j]'eP with n:=(s'.reqs[j]'eP).n+1}} m2 g2) w F (w10.setCell ⟨g6,ke+j*7+4,none⟩ (.int .i64 ((s'.reqs[j]'eP).n+1)))):=ZH.out.trans fun F' dR=>by rw[bF dR KE];exact VV
           clear Xu Xk KE aaZ zG VV k6 R8 rA Y4 HO9 ZH;obtain⟨rr,hrr⟩: ∃rr,rr=s'.reqs[j]'eP:=⟨_,rfl⟩;have HRR:=hide hrr;rw[<-hrr]at v4 Sj Oa ZC zI Sb yF;clear hrr;go_wp2_with fail;obtain⟨Bw,Yc⟩: ∃Bw,Bw=w10.setCell ⟨g6,ke+j*7+4,none⟩ (.int .i64 (rr.n+1)):=⟨_,rfl⟩;rw[<-Yc];rw[<-Yc]at Oa;clear Yc v4 vf Sj;obtain⟨F11,TI,o11,n11⟩:=Oa.out;have WL:=hide TI;have Ip:=bR (s:={s' with wait:=ws,ring:=s'.ring.eraseIdx k++St.rest (g[k]'ay).1,reqs:=s'.reqs.set j {rr with n:=rr.n+1}}) C7.out TI;have t5:Bw.cell? ⟨p,5,none⟩=some (.int .i64 s'.now):=Ip.cell 5;have t0:Bw.cell? ⟨p,0,none⟩=some (.int .i64 s'.c.le):=Ip.cell 0;have t7:Bw.cell? ⟨p,7,none⟩=some m2.av:=Ip.cell 7;have tf7:Bw.frozen? ⟨p,7,none⟩=false:=Ip.frozen 7;obtain⟨G7,hG7,aau,aat⟩:=SU (cap:=yc) (off:=ke) (g6:=g6) TI (by rw[VF.out];exact congrArg (fun n=>Value.slice (some ⟨g6,ke,none⟩) n yc) List.length_set.symm);have abC:=hide aat;have Hg:=hide hG7;have SA:=hide aau;obtain⟨G6,zG⟩:=Ip.rq;rw[VF.out]at zG;have zK:(s'.reqs.set j {rr with n:=rr.n+1}).length=s'.reqs.length:=List.length_set;have Xp:(dO (.slice (some ⟨g6,ke,none⟩) (s'.reqs.set j {rr with n:=rr.n+1}).length yc) (s'.reqs.set j {rr with n:=rr.n+1})).holds Bw G6:=by rw[zK];exact zG
           obtain⟨-,-,v2,v3,v4,-,-⟩:=fH Xp (by rw[zK];exact eP);simp only[List.getElem_set_self]at v2 v3 v4;have acw:=(dK Xp).1;have T9:=Ip.lt;have gS:IntKind.i64.wrap (s'.now+s'.c.le)=s'.now+s'.c.le:=by rw[IntKind.wrap_i64];have:=hcb.le;omega
           obtain⟨NN,Lt,yy,_,_⟩:=bO hG7;rw[yy]at t7;have HAV:=hide yy;have ZV:Hid (∀b,Below Bw.heap.size Bw b->(rowA 170 5 (.slice NN s'.af.length Lt) s'.af.length (flat fW s'.af)).holds b G7):=fun b hb=>by have:=au Hg.out hb;rw[HAV.out]at this;exact this
           clear TI o11 n11 Ip hG7 aau aat zG Xp yy zK;obtain⟨i7,hi7,hu0,hu1,hu2⟩:=info_parts infoAt;have C9:Hid (∀w',Below Bw.heap.size Bw w'->w'.cell? ⟨p,7,none⟩=some (.slice NN s'.af.length Lt)∧w'.cell? ⟨p,5,none⟩=some (.int .i64 s'.now)∧w'.cell? ⟨p,0,none⟩=some (.int .i64 s'.c.le)∧w'.cell? ⟨g6,ke+j*7+4,none⟩=some (.int .i64 (rr.n+1))):=fun w' hb=>⟨by rw[hb.cell (p:=⟨p,7,none⟩) T9];exact t7,by rw[hb.cell (p:=⟨p,5,none⟩) T9];exact t5,by rw[hb.cell (p:=⟨p,0,none⟩) T9];exact t0,by rw[hb.cell (p:=⟨g6,ke+j*7+4,none⟩) acw];exact v4⟩
           refine wp_region_noPanic ?_;refine qC (n:=30) (S:=fun w'=>w'.cell? ⟨p,7,none⟩=some (.slice NN s'.af.length Lt)∧w'.cell? ⟨p,5,none⟩=some (.int .i64 s'.now)∧w'.cell? ⟨p,0,none⟩=some (.int .i64 s'.c.le)∧w'.cell? ⟨g6,ke+j*7+4,none⟩=some (.int .i64 (rr.n+1))) (by kernel_rfl) ?_;have dX:=C9.out Bw.drew (ah _ _).drew;refine gX (i:=0) rfl dX ?_
           try simp only[Act.put,sT,s0,s1]
           refine gX (i:=1) rfl dX ?_
           try simp only[Act.put,sT,s0,s1]
           refine gX (i:=2) rfl dX ?_
           try simp only[Act.put,sT,s0,s1]
           refine gX (i:=3) rfl dX ?_
           try simp only[Act.put,sT,s0,s1]
           refine gX (i:=4) rfl dX ?_
           try simp only[Act.put,sT,s0,s1]
           refine gX (i:=5) rfl dX ?_
           try simp only[Act.put,sT,s0,s1]
           refine gX (i:=6) rfl dX ?_
           try simp only[Act.put,sT,s0,s1]
           refine gX (i:=7) rfl dX ?_
           try simp only[Act.put,sT,s0,s1]
           refine gX (i:=8) rfl dX ?_
           try simp only[Act.put,sT,s0,s1]
           refine gX (i:=9) rfl dX ?_
           try simp only[Act.put,sT,s0,s1]
           refine gX (i:=10) rfl dX ?_
           try simp only[Act.put,sT,s0,s1]
           refine gX (i:=11) rfl dX ?_
           try simp only[Act.put,sT,s0,s1]
           refine gX (i:=12) rfl dX ?_
           try simp only[Act.put,sT,s0,s1]
           refine gX (i:=13) rfl dX ?_
           try simp only[Act.put,sT,s0,s1]
           refine gX (i:=14) rfl dX ?_
           try simp only[Act.put,sT,s0,s1]
           refine gX (i:=15) rfl dX ?_
           try simp only[Act.put,sT,s0,s1]
           refine gX (i:=16) rfl dX ?_
           try simp only[Act.put,sT,s0,s1]
           refine gX (i:=17) rfl dX ?_
           try simp only[Act.put,sT,s0,s1]
           refine gX (i:=18) rfl dX ?_
           try simp only[Act.put,sT,s0,s1]
           refine gX (i:=19) rfl dX ?_
           try simp only[Act.put,sT,s0,s1]
           refine gX (i:=20) rfl dX ?_
           try simp only[Act.put,sT,s0,s1]
           refine gX (i:=21) rfl dX ?_
           try simp only[Act.put,sT,s0,s1]
           refine gX (i:=22) rfl dX ?_
           try simp only[Act.put,sT,s0,s1]
           refine gX (i:=23) rfl dX ?_
           try simp only[Act.put,sT,s0,s1]
           refine gX (i:=24) rfl dX ?_
           try simp only[Act.put,sT,s0,s1]
           refine gX (i:=25) rfl dX ?_
           try simp only[Act.put,sT,s0,s1]
           refine iu (i:=26) (by kernel_rfl) rfl ?_;intro K hK;go_simp;have tk:=C9.out ((Bw.alloc (.cells #[.int .i64 id, .int .i64 (rr.n+1), .int .i64 c, .int .i64 s'.now, .int .i64 (s'.now+s'.c.le)] 170)).drew) ((ah _ _).alloc (ae _) _).drew;refine hK.out _ _ (Or.inr tk) ?_;clear hK K
           try simp only[Act.put,sT,s0,s1]
           refine iu (i:=27) (by kernel_rfl) rfl ?_;intro K hK;refine fe _ (by rfl) _ _ _ (by rfl) 170 i7 _ 5 40 underlying158 hi7 hu0 hu1 hu2 rfl (by omega) (F:=G7) _ s'.af.length (flat fW s'.af) (by rfl) (ZV.out _ ((ah _ _).alloc (ae _) _).drew) ⟨Bw.heap.size,0,none⟩ 1 1 [.int .i64 id, .int .i64 (rr.n+1), .int .i64 c, .int .i64 s'.now, .int .i64 (s'.now+s'.c.le)] (by rfl) (by rfl) (World.news_of_block (cs:= #[.int .i64 id, .int .i64 (rr.n+1), .int .i64 c, .int .i64 s'.now, .int .i64 (s'.now+s'.c.le)]) (t:=170) (fr:=(0,0)) (heap_alloc_new Bw _)) (by simp[Value.oneCell']) (by unfold maxLen;omega) (by omega) ?_;intro VK Zc YT yD;have Vx:=hide yD;have CZ:p<((Bw.alloc (.cells #[.int .i64 id, .int .i64 (rr.n+1), .int .i64 c, .int .i64 s'.now, .int .i64 (s'.now+s'.c.le)] 170)).drew).heap.size:=by simp;omega
           have hgz:g6<((Bw.alloc (.cells #[.int .i64 id, .int .i64 (rr.n+1), .int .i64 c, .int .i64 s'.now, .int .i64 (s'.now+s'.c.le)] 170)).drew).heap.size:=by simp;omega
           have Oe:YT.cell? ⟨p,7,none⟩=some (.slice NN s'.af.length Lt)∧YT.cell? ⟨p,5,none⟩=some (.int .i64 s'.now)∧YT.cell? ⟨p,0,none⟩=some (.int .i64 s'.c.le)∧YT.cell? ⟨g6,ke+j*7+4,none⟩=some (.int .i64 (rr.n+1)):=⟨(yD.only.cell (p:=⟨p,7,none⟩) CZ SA.out).trans tk.1,(yD.only.cell (p:=⟨p,5,none⟩) CZ SA.out).trans tk.2.1,(yD.only.cell (p:=⟨p,0,none⟩) CZ SA.out).trans tk.2.2.1,(yD.only.cell (p:=⟨g6,ke+j*7+4,none⟩) hgz abC.out).trans tk.2.2.2⟩;have f12:YT.frozen? ⟨p,7,none⟩=false:=(yD.only.frozen (p:=⟨p,7,none⟩) CZ SA.out).trans (((((ah Bw.heap.size Bw).alloc (ae _) _).drew).frozen (p:=⟨p,7,none⟩) T9).trans tf7);refine hK.out _ _ (Or.inr Oe) ?_;clear hK K yD
           try simp only[Act.put,sT,s0,s1]
           refine gX (i:=28) rfl Oe ?_
           try simp only[Act.put,sT,s0,s1]
           refine gX (i:=29) rfl Oe ?_
           try simp only[Act.put,sT,s0,s1]
           refine iu (i:=30) (by kernel_rfl) rfl ?_;intro K hK;have y7:=Oe.1;go_simp;refine hK.out _ _ (Or.inl rfl) ?_;refine qB (by kernel_rfl) (NoPanic.normal ?_) _;clear hK K y7 Oe f12 tk dX;have WA:Hid (Goes (aI p {s' with wait:=ws,ring:=s'.ring.eraseIdx k++St.rest (g[k]'ay).1,reqs:=s'.reqs.set j {rr with n:=rr.n+1},af:=s'.af++ [⟨id,rr.n+1,c,s'.now,s'.now+s'.c.le⟩],begun:=s'.begun+1} {m2 with av:= .slice VK (s'.af.length+1) Zc} g2) w F (YT.setCell ⟨p,7,none⟩ (.slice VK (s'.af.length+1) Zc))):=Oa.out.trans fun F' dR=>by rw[bF dR WL.out];refine SV (s:={s' with wait:=ws,ring:=s'.ring.eraseIdx k++St.rest (g[k]'ay).1,reqs:=s'.reqs.set j {rr with n:=rr.n+1}}) (G:=G7) (w1:=(Bw.alloc (.cells #[.int .i64 id, .int .i64 (rr.n+1), .int .i64 c, .int .i64 s'.now, .int .i64 (s'.now+s'.c.le)] 170)).drew) WL.out ((ah _ _).alloc (ae _) _).drew (au Hg.out ((ah _ _).alloc (ae _) _).drew) ?_;unfold mz;rw[dL,aN];exact Vx.out
           clear Vx Oa WL Hg ZV C9 t5 t0 t7 tf7 v2 v3 v4 gS;go_wp2_with fail;obtain⟨Vo,Yd⟩: ∃Vo,Vo=YT.setCell ⟨p,7,none⟩ (.slice VK (s'.af.length+1) Zc):=⟨_,rfl⟩;rw[<-Yd];rw[<-Yd]at WA;clear Yd;obtain⟨F13,Xl,o13,n13⟩:=WA.out;have WM:=hide Xl;have acH:=bR (s:={s' with wait:=ws,ring:=s'.ring.eraseIdx k++St.rest (g[k]'ay).1,reqs:=s'.reqs.set j {rr with n:=rr.n+1},af:=s'.af++ [⟨id,rr.n+1,c,s'.now,s'.now+s'.c.le⟩],begun:=s'.begun+1}) C7.out Xl;have zK:(s'.reqs.set j {rr with n:=rr.n+1}).length=s'.reqs.length:=List.length_set;have Ib: ∀(nk:Value) (t:Bs) (w':World) (F':Ft),(aI p ({s' with wait:=ws,ring:=s'.ring.eraseIdx k++St.rest (g[k]'ay).1,reqs:=s'.reqs.set j {rr with n:=rr.n+1},af:=s'.af++ [⟨id,rr.n+1,c,s'.now,s'.now+s'.c.le⟩],begun:=s'.begun+1}:St) {m2 with av:= .slice VK (s'.af.length+1) Zc} g2).holds w' F'∨(aI p (({s' with wait:=ws,ring:=s'.ring.eraseIdx k++St.rest (g[k]'ay).1,reqs:=s'.reqs.set j {rr with n:=rr.n+1},af:=s'.af++ [⟨id,rr.n+1,c,s'.now,s'.now+s'.c.le⟩],begun:=s'.begun+1}:St).say c t) {m2 with av:= .slice VK (s'.af.length+1) Zc,ov:=nk} g2).holds w' F'->w'.cell? ⟨g6,ke+j*7+4,none⟩=some (.int .i64 (rr.n+1))∧w'.cell? ⟨g6,ke+j*7+2,none⟩=some (.string ⟨rr.ten.toArray⟩)∧w'.cell? ⟨g6,ke+j*7+3,none⟩=some (.string ⟨rr.txt.toArray⟩):=fun nk t w' F' h=>by
            have pH: ∃G,(dO m2.rv (s'.reqs.set j {rr with n:=rr.n+1})).holds w' G:=by
             rcases h with h|h
             ·exact(bR (s:={s' with wait:=ws,ring:=s'.ring.eraseIdx k++St.rest (g[k]'ay).1,reqs:=s'.reqs.set j {rr with n:=rr.n+1},af:=s'.af++ [⟨id,rr.n+1,c,s'.now,s'.now+s'.c.le⟩],begun:=s'.begun+1}) C7.out h).rq
             ·exact(bR (s:=({s' with wait:=ws,ring:=s'.ring.eraseIdx k++St.rest (g[k]'ay).1,reqs:=s'.reqs.set j {rr with n:=rr.n+1},af:=s'.af++ [⟨id,rr.n+1,c,s'.now,s'.now+s'.c.le⟩],begun:=s'.begun+1}:St).say c t) C7.out h).rq
            obtain⟨G,hG⟩:=pH;rw[VF.out]at hG;have zF:(dO (.slice (some ⟨g6,ke,none⟩) (s'.reqs.set j {rr with n:=rr.n+1}).length yc) (s'.reqs.set j {rr with n:=rr.n+1})).holds w' G:=by rw[zK];exact hG
            obtain⟨-,-,v2,v3,v4,-,-⟩:=fH zF (by rw[zK];exact eP);simp only[List.getElem_set_self]at v2 v3 v4;exact⟨v4,v2,v3⟩
           have HS:Hid (∀w',Below Vo.heap.size Vo w'->w'.cell? ⟨g6,ke+j*7+4,none⟩=some (.int .i64 (rr.n+1))∧w'.cell? ⟨g6,ke+j*7+2,none⟩=some (.string ⟨rr.ten.toArray⟩)∧w'.cell? ⟨g6,ke+j*7+3,none⟩=some (.string ⟨rr.txt.toArray⟩)):=fun w' hb=>Ib (.slice none 0 0) [] w' F13 (.inl (au WM.out hb));have oK:rr.id=id:=yF;have pB:Hid (∀w':World,Calls prog 103 #[.int .i64 id] w' fun e dV=>e= .returned (.string ⟨(cJ id).toArray⟩)∧Below w'.heap.size w' dV):=fun w'=>kO id (by have:=zI.id;omega) (by have:=zI.id;omega) w';have zN:Hid (∀w':World,Calls prog 103 #[.int .i64 (rr.n+1)] w' fun e dV=>e= .returned (.string ⟨(cJ (rr.n+1)).toArray⟩)∧Below w'.heap.size w' dV):=fun w'=>kO (rr.n+1) (by have:=zI.n;omega) (by have:=zI.n;omega) w';have Wy:=ZC.out;have gq:Hid (∀w',Below Vo.heap.size Vo w'->Calls prog 102 #[.pointer (some ⟨p,0,none⟩), .int .i64 c, .string ((⟨#[114,117,110,32]⟩:ByteArray)++⟨(cJ id).toArray⟩++⟨#[32]⟩++⟨(cJ (rr.n+1)).toArray⟩++⟨#[32]⟩++⟨rr.ten.toArray⟩++⟨#[32]⟩++⟨rr.txt.toArray⟩)] w' fun e dV=>e= .returned (.tuple #[])∧gY p s w F (s'.give c ws k) dV∧Gy p dV<Gy p wr∧dV.cell? ⟨g6,ke+j*7+4,none⟩=some (.int .i64 (rr.n+1))∧dV.cell? ⟨g6,ke+j*7+2,none⟩=some (.string ⟨rr.ten.toArray⟩)∧dV.cell? ⟨g6,ke+j*7+3,none⟩=some (.string ⟨rr.txt.toArray⟩)):=fun w' hb=>by
            have iK:=U6 rr (rr.n+1);rw[oK]at iK;rw[iK];have hlen:(St.runText rr (rr.n+1)).length<=1048576:=by have h1:=fh rr.id;have h2:=fh (rr.n+1);have h3:=zI.ten;have h4:=zI.txt;unfold St.runText;simp;omega
            refine(lW p c (St.runText rr (rr.n+1)) _ _ g2 w' F13 (au WM.out hb) (by show s'.out.length<=_;omega) hlen).mono ?_;rintro e dV⟨rfl,nk,hg⟩;obtain⟨F2,eX⟩:=hg.facts;have hGo:Goes (aU p (s'.give c ws k)) w F dV:=by rw[Wy];refine cI (m:={m2 with av:= .slice VK (s'.af.length+1) Zc,ov:=nk}) (g:=g2) C7.out (Goes.trans (WA.out.below hb) fun F' dR=> ?_);rw[bF dR (au WM.out hb)];exact hg
            refine⟨rfl,gB.out.next SM.out HFR.out (by rw[Wy];rfl) hGo, ?_,Ib nk _ dV F2 (.inr eX)⟩;rw[Gz (bR (s:=({s' with wait:=ws,ring:=s'.ring.eraseIdx k++St.rest (g[k]'ay).1,reqs:=s'.reqs.set j {rr with n:=rr.n+1},af:=s'.af++ [⟨id,rr.n+1,c,s'.now,s'.now+s'.c.le⟩],begun:=s'.begun+1}:St).say c (St.runText rr (rr.n+1))) C7.out eX),wI.out];show ws.length<s'.wait.length;rw[SM.out];simp
           have ng:(cJ id).length<=20:=fh _;have qN:(cJ (rr.n+1)).length<=20:=fh _;have Zn:=zI.ten;have hq4:=zI.txt;clear Xl o13 n13 acH Ib zK Wy;generalize cJ id=fi at*;generalize cJ (rr.n+1)=fn at*;have Ae: ¬9223372036854775807<4+fi.length:=by omega
           have oJ: ¬9223372036854775807<4+fi.length+1:=by omega
           have NX: ¬9223372036854775807<4+fi.length+1+fn.length:=by omega
           have hl4: ¬9223372036854775807<4+fi.length+1+fn.length+1:=by omega
           have hl5: ¬9223372036854775807<4+fi.length+1+fn.length+1+rr.ten.length:=by omega
           have hl6: ¬9223372036854775807<4+fi.length+1+fn.length+1+rr.ten.length+1:=by omega
           have hl7: ¬9223372036854775807<4+fi.length+1+fn.length+1+rr.ten.length+1+rr.txt.length:=by omega
           obtain⟨z4,z2,z3⟩:=HS.out Vo (ah _ _);go_region_held3 (fun w'=>w'.cell? ⟨g6,ke+j*7+4,none⟩=some (.int .i64 (rr.n+1))∧w'.cell? ⟨g6,ke+j*7+2,none⟩=some (.string ⟨rr.ten.toArray⟩)∧w'.cell? ⟨g6,ke+j*7+3,none⟩=some (.string ⟨rr.txt.toArray⟩)) (go_keep)
            (first
             |(go_at_call_of 103 (Value.int IntKind.i64 id);refine(pB.out _).mono ?_;rintro e w14⟨rfl,acj⟩;have ab7:=bj (wr:=Vo) (by first|exact(ah _ _).drew|assumption) acj;obtain⟨s1,s2,s3⟩:=HS.out _ ab7)
             |(go_at_call 103;refine(zN.out _).mono ?_;rintro e w15⟨rfl,ack⟩;have ab8:=bj (wr:=Vo) (by first|exact(ah _ _).drew|assumption) ack;obtain⟨s4,s5,s6⟩:=HS.out _ ab8)
             |(go_at_call 102;refine(gq.out _ (by first|exact(ah _ _).drew|assumption)).mono ?_;rintro e w16⟨rfl,hsv,PO,s7,s8,s9⟩))
           all_goals
            have abK:=hide hsv;have WH:=hide PO;clear hsv PO s7 s8 s9;go_wp2;go_roundw
            case rel=>exact⟨_,abK⟩
            case measure=>exact WH.out
      ·have ig:Hid (k+1<=g.findIdx (fun x=>decide ((s'.runs x.1.ten:Int)<s'.c.ca))):=eI ay (by simpa using hq) HI.out;have wT:s'.c.ca<=(s'.runs (g[k]'ay).1.ten:Int):=by omega
       clear HI hq;go_wp2;go_roundw
       case rel=>exact⟨k+1,by omega,by go_num,ig,pI⟩
       case measure=>simp[intOf];omega
    ·have Ei:g.findIdx? (fun x=>decide ((s'.runs x.1.ten:Int)<s'.c.ca))=none:=lD (by have:=HI.out;omega);have HX:Hid (fZ p s.serve w F (.returned (.tuple #[])) wi):=⟨rfl,by rw[gB.out.done (Or.inr ((Y2.out none).2 Ei))];exact gB.out.goes.below Zg⟩;obtain rfl:k=g.length:=by omega
     have hdf:decide (((g.length:Nat):Int)<((g.length:Nat):Int))=false:=by simp
     clear Ei HI;go_wp2_with fail
     go_quiet (fail)
     go_wp2;go_end0;exact(fZ.drewN HX.out _)
