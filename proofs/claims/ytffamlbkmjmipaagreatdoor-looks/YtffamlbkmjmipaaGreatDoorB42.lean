import Derived.Test.YtffamlbkmjmipaaGreatDoorB19
import Derived.Test.YtffamlbkmjmipaaGreatDoorB27
import Derived.Test.YtffamlbkmjmipaaGreatDoorB35
import Derived.Test.YtffamlbkmjmipaaGreatDoorB40
set_option maxHeartbeats 8000000
set_option maxRecDepth 100000
namespace Go.Proofs.YtffamlbkmjmipaaGreatDoor
open _root_.Go.Proofs.Tryz
namespace Mc
open bJ
namespace St
variable{s:St}
theorem K4{a:At}(hi:Inv s)(ha:a∈s.af)(hs:s.slow a=true): ∃r,s.req a.id=some r∧r∈s.reqs∧r.id=a.id∧r.bn=false∧s.c.he<=s.now-a.k7:=by obtain⟨r,hr,KI,oK⟩:=cz (hi.bS a ha);unfold slow at hs;rw[hr,bZ]at hs;exact⟨r,hr,KI,oK,by simpa using hs.2,by simpa using hs.1⟩
theorem FR{a:At}(hi:Inv s)(ho:Ok s)(ha:a∈s.af)(hs:s.slow a=true):s.count a.id=1∧s.waits a.id=false:=by
 obtain⟨r,hr,KI,oK,hh,_⟩:=K4 hi ha hs;have LZ:0<s.count a.id:=by unfold count;rw[List.countP_pos_iff];exact⟨a,ha,by simp⟩
 obtain⟨h1,h2⟩:=ho.hd r KI hh;rw[oK]at h1 h2;exact⟨by omega,h2 LZ⟩
theorem D5{a:At}(hi:Inv s)(ho:Ok s)(ha:a∈s.af)(h0:s.c.he≠0)(xt:0<=s.c.he)(hs:s.slow a=true):s.bA a=s.dG a:=by obtain⟨r,hr,KI,oK,hh,ht⟩:=K4 hi ha hs;obtain⟨hc,hw⟩:=FR hi ho ha hs;unfold bA dG;rw[hr];dsimp only;rw[if_pos (by simp[hh,hw,hc,ht];omega)]
theorem Ii{a b:At}(hi:Inv s)(ho:Ok s)(ha:a∈s.af)(hb:b∈s.af)(cC:(a.id,a.n)≠(b.id,b.n))(hs:s.slow a=true):(s.dG a).slow b=s.slow b:=by
 obtain⟨hc,_⟩:=FR hi ho ha hs;have hid:b.id≠a.id:=fun e=>by
  have oa:a≠b:=fun e2=>cC (by rw[e2]);have:2<=s.count a.id:=by
   unfold count;rw[List.countP_eq_length_filter];exact Pj.jN (l:= [a,b]) (by simp[oa]) (fun x hx=>by
    simp at hx;rcases hx with rfl|rfl
    ·exact aR.2 ⟨ha,by simp⟩
    ·exact aR.2 ⟨hb,by simpa using e⟩)
  omega
 obtain⟨e1,e2,e3,_⟩:=oH (s:=s) a;unfold slow;rw[e2,e3];have:(s.dG a).req b.id=s.req b.id:=by unfold dG;rw[Bn,lT hi a.id b.id (fun r=>{r with bn:=true}) (fun _=>rfl)];simp only[if_neg hid];cases s.req b.id<;>rfl
 rw[this]
end St
end Mc
namespace Pj
open Mc bJ
theorem Sd.dG{n:Nat}{s:St}(h:Sd n s){a:At}(ha:a∈s.af)(h0:s.c.he≠0)(xt:0<=s.c.he)(hs:s.slow a=true):Sd n (s.dG a):=by have e:=St.D5 h.inv h.ok ha h0 xt hs;rw[<-e];exact⟨St.oG h.inv a,h.ok.bA h.inv a,by rw[St.A8];exact h.sz,h.bd.bA a⟩
structure ow(n:Nat)(s:St)(L:List At)(k:Nat)(s':St):Prop where
 sd:Sd n s'
 is:s'=(L.take k).foldl St.dG s
 same:s'.af=s.af∧s'.c=s.c∧s'.now=s.now
 slow: ∀i (h:i<L.length),k<=i->s'.slow L[i]=true
theorem ow.start{n:Nat}{s:St}(h:Sd n s):ow n s (s.af.filter s.slow) 0 s:=
 ⟨h,rfl,⟨rfl,rfl,rfl⟩,fun _ hi _=>(aR.1 (aY hi)).2⟩
theorem ow.step{n:Nat}{s s':St}{k:Nat}(h:ow n s (s.af.filter s.slow) k s')(ho:Ok s)(hk:k<(s.af.filter s.slow).length)(h0:s.c.he≠0)(xt:0<=s.c.he):ow n s (s.af.filter s.slow) (k+1) (s'.dG (s.af.filter s.slow)[k]):=by
 have hm: ∀i (hi:i<(s.af.filter s.slow).length),(s.af.filter s.slow)[i]∈s'.af:=fun i hi=>by rw[h.same.1];exact(aR.1 (aY hi)).1
 have zK:=h.slow k hk (ae _);obtain⟨e1,e2,e3,_⟩:=St.oH (s:=s') (s.af.filter s.slow)[k];refine⟨h.sd.dG (hm k hk) (by rw[h.same.2.1];exact h0) (by rw[h.same.2.1];exact xt) zK, ?_,⟨e1.trans h.same.1,e2.trans h.same.2.1,e3.trans h.same.2.2⟩,fun i hi Ac=> ?_⟩
 ·rw[fp hk,List.foldl_append,<-h.is];rfl
 ·rw[St.Ii h.sd.inv h.sd.ok (hm k hk) (hm i hi) (fun e=> ?_) zK]
  ·exact h.slow i hi (by omega)
  ·have jJ:((s.af.filter s.slow).map fun a=>(a.id,a.n)).Nodup:=(List.filter_sublist.map _).nodup ho.key;have hp:=List.pairwise_iff_getElem.1 jJ;exact hp k i (by simpa using hk) (by simpa using hi) (by omega) (by rw[List.getElem_map,List.getElem_map];exact e)
end Pj
namespace Mr
open Go.RowKit aM Mc bJ
attribute [local go_sem] aL.ag aL.ar
def lsI:Option Int->Int
 |none=> -1
 |some i=>i
theorem H8{p:Nat}{s:St}{w w1:World}{F:Ft}(h:Goes (aU p s) w F w1): ∃F1,(aU p s).holds w1 F1∧(∀(A:aM) (w2:World),Goes A w1 F1 w2->Goes A w F w2):=by obtain⟨F1,h1,o1,n1⟩:=h;exact⟨F1,h1,fun A w2 h=>Goes.trans ⟨F1,h1,o1,n1⟩ fun F' dR=>by rw[eG dR h1];exact h⟩
theorem close_any(p:Nat)(c:Int){n:Nat}(s:St)(hv:Mc.Good n s)(hn:n<=1300000)(w:World)(F:Ft)(hm:(aU p s).holds w F):Calls prog 62 #[.pointer (some ⟨p,0,none⟩), .int .i64 c] w fun e w'=> ∃v,e= .returned v∧Goes (aa (iB v (s.close c).out) (aU p (s.close c).told)) w F w':=by
 obtain⟨i0,hi,gI,dN,fS⟩:=info_parts P1;have uJ:=qJ hv hn;have V1:=uJ.lens;have ZO:Hid (Calls prog 111 #[.pointer (some ⟨p,0,none⟩), .int .i64 c] w (fZ p (s.idle c) w F)):=Eo p c s w F hm (by omega);have D9:Fine 15600100 (s.idle c):=⟨St.iY uJ.inv c,uJ.bd.idle c,aw (St.tS c) uJ.sz⟩;have Su:=hide D9;have adx:(s.idle c).aq.length<=15600100:=V1.2.2.2.2;have HCL:Hid (∀s',s'=St.aQ ({s.idle c with aq:=(s.idle c).aq.filter (·.n !=c)}:St).reqs.length ({s.idle c with aq:=(s.idle c).aq.filter (·.n !=c)}:St) c->s.close c=(St.aP s'.af.length s' c).serve):=fun s' h=>by subst h;rfl
 clear hm hv uJ D9 V1;generalize s.idle c=s1 at*;go_enter func62,ntmps62;go_wp2_with fail;refine ZO.out.mono ?_;rintro e w1⟨rfl,rF⟩;obtain⟨F1,cd,N3⟩:=H8 rF;obtain⟨m,g,hr,az⟩:=bD cd;have dU:=bR hr az;obtain⟨ao,cap,G,Ic,c10,HG,fT⟩:=Hs dU;have f10:w1.frozen? ⟨p,10,none⟩=false:=dU.frozen 10;have dc:=dU.lt;have Wz:Hid (∀v w2,Goes (lz v (s1.aq.filter (·.n !=c))) w1 (fun _=>False) w2->Goes (aU p ({s1 with aq:=s1.aq.filter (·.n !=c)}:St)) w F (w2.setCell ⟨p,10,none⟩ v)):=fun v w2 h=>N3 _ _ (Xa hr az h);have Sv:Hid (Fine 15600100 ({s1 with aq:=s1.aq.filter (·.n !=c)}:St)):=by have h1:=Su.out;have h2:=List.length_filter_le (fun x:Cn=>x.n !=c) s1.aq;refine⟨⟨h1.inv.rid,h1.inv.bS,h1.inv.ring,h1.inv.fP,h1.inv.once,(List.filter_sublist.map _).nodup h1.inv.cn,h1.inv.wt⟩,h1.bd.aq _, ?_⟩;have h3:=h1.sz;unfold St.sz at h3⊢;dsimp only;omega
 clear rF cd N3 hr az dU Ic ZO Su;generalize hl:s1.aq=l at*;go_wp2;go_loopw [5,22] (fun lv i wr=> ∃k:Nat,k<=l.length∧i= .int .i64 k∧(∃n1 dP eQ,lv= .slice dP n1 eQ∧n1<=16777216∧Hid (n1=((l.take k).filter (·.n !=c)).length∧Goes (lz (.slice dP n1 eQ) ((l.take k).filter (·.n !=c))) w1 (fun _=>False) wr))) (fun _ i _=>l.length-(intOf i).toNat)
 case atStart=>exact⟨0,aJ _,rfl,⟨0,none,0,rfl,by omega,by show(_∧_);exact⟨by simp,Goes.refl (dS _ _ _ (fun _ h=>h))⟩⟩⟩
 case round=>
  obtain⟨k,hk,rfl,⟨n1,dP,eQ,rfl,qb,HN⟩⟩:=hrel;have hB:=HN.out.2.toBelow;have cg:=hB.size;by_cases ay:k<l.length
  ·obtain⟨g',off,rfl⟩:=fT.out (by omega);obtain⟨c0,c1,c2,c3⟩:=gL (au HG.out hB) ay;have hgz:g'<wr.heap.size:=(dK (au HG.out hB)).1;cases hq:((l[k]'ay).n !=c)
   ·have ig:Hid (n1=((l.take (k+1)).filter (·.n !=c)).length∧Goes (lz (.slice dP n1 eQ) ((l.take (k+1)).filter (·.n !=c))) w1 (fun _=>False) (wr.alloc (.cells #[.int .i64 (l[k]'ay).n, .string ⟨(l[k]'ay).rest.toArray⟩, .bool (l[k]'ay).drains, .bool (l[k]'ay).gone] 166))):=by
     show(_∧_);rw[mF ay,hq];exact⟨by simpa using HN.out.1,by simpa using HN.out.2.dt _⟩
    clear HN;go_wp2;go_roundw
    case rel=>exact⟨k+1,by omega,by go_num,⟨n1,dP,eQ,rfl,qb,ig⟩⟩
    case measure=>simp[intOf];omega
   ·obtain⟨Gr,kG,Jf,GZ⟩:=HN.out.2;have cC:=HN.out.1;have pH:(rowA 166 4 (.slice dP n1 eQ) n1 (flat zX ((l.take k).filter (·.n !=c)))).holds wr Gr:=by unfold lz at kG;rw[<-cC]at kG;exact kG
    have fy:=hide pH;have WJ:=hide cC;have HOG:=hide Jf;have VC:=hide GZ;clear kG pH cC Jf GZ HN;go_wp2_with (at_builtin;go_must(refine aC _ rfl _ _ 160 rfl 166 i0 (.agg #[.int .i64 0, .string ⟨#[]⟩, .bool false, .bool false]) 4 32 underlying160 hi gI dN fS rfl (by decide) (F:=Gr) _ n1 (flat zX ((l.take k).filter (·.n !=c))) rfl (au (au fy.out ((ah _ _).alloc (ae _) _)) ((ah _ _).alloc (ae _) _)) ⟨wr.heap.size+1,0,none⟩ 1 1 [.int .i64 (l[k]'ay).n, .string ⟨(l[k]'ay).rest.toArray⟩, .bool (l[k]'ay).drains, .bool (l[k]'ay).gone] rfl rfl (World.news_of_block (cs:= #[.int .i64 (l[k]'ay).n, .string ⟨(l[k]'ay).rest.toArray⟩, .bool (l[k]'ay).drains, .bool (l[k]'ay).gone]) (t:=166) (fr:=(0,0)) (K6 wr _ _)) (by simp[Value.oneCell']) (by unfold maxLen;omega) (by omega) ?main))
    case main=>
     intro cU gz w2 bK;have ig:Hid (n1+1=((l.take (k+1)).filter (·.n !=c)).length∧Goes (lz (.slice cU (n1+1) gz) ((l.take (k+1)).filter (·.n !=c))) w1 (fun _=>False) w2):=by
      show(_∧_);rw[mF ay,hq];have e1:n1+1=(((l.take k).filter (·.n !=c))++ [l[k]'ay]).length:=by rw[aN,<-WJ.out];rfl
      refine⟨e1, ?_⟩;have h1:=Goes.dt (Goes.dt (A:=rowA 166 4 (.slice dP n1 eQ) n1 (flat zX ((l.take k).filter (·.n !=c)))) (w:=w1) (F:=fun _=>False) ⟨Gr,fy.out,HOG.out,VC.out⟩ (.cells #[.int .i64 (l[k]'ay).n, .string ⟨(l[k]'ay).rest.toArray⟩, .bool (l[k]'ay).drains, .bool (l[k]'ay).gone] 166)) (.cells #[.int .i64 (l[k]'ay).n, .string ⟨(l[k]'ay).rest.toArray⟩, .bool (l[k]'ay).drains, .bool (l[k]'ay).gone] 166);refine(h1.trans fun F' dR=> ?_).eq (A:=rowA 166 4 (.slice cU (n1+1) gz) (n1+1) (flat zX ((l.take k).filter (·.n !=c))++ [.int .i64 (l[k]'ay).n, .string ⟨(l[k]'ay).rest.toArray⟩, .bool (l[k]'ay).drains, .bool (l[k]'ay).gone])) ?_
      ·rw[eO dR (au (au fy.out ((ah _ _).alloc (ae _) _)) ((ah _ _).alloc (ae _) _))];exact bK
      ·unfold lz;rw[if_pos rfl,<-e1,dL];rfl
     have sH:n1+1<=16777216:=by have h1:=ig.out.1;have h2:=filter_le (l:=l) (k:=k+1) (p:=(·.n !=c));omega
     clear bK;go_wp2;go_roundw
     case rel=>exact⟨k+1,by omega,by go_num,⟨n1+1,cU,gz,by first|rfl|go_num,sH,ig⟩⟩
     case measure=>simp[intOf];omega
  ·obtain rfl:k=l.length:=by omega
   have hX:Goes (lz (.slice dP n1 eQ) (l.filter (·.n !=c))) w1 (fun _=>False) wr:=by have h:=HN.out.2;rw[List.take_length]at h;exact h
   have pn:=hide (Wz.out _ _ hX);have ado:wr.cell? ⟨p,10,none⟩=some (.slice ao l.length cap):=by rw[hB.cell (p:=⟨p,10,none⟩) dc];exact c10
   have adu:wr.frozen? ⟨p,10,none⟩=false:=by rw[hB.frozen (p:=⟨p,10,none⟩) dc];exact f10
   clear hX Wz hB c10 f10 HN HG fT;obtain⟨s2,Iz⟩: ∃s2:St,s2={s1 with aq:=l.filter (·.n !=c)}:=⟨_,rfl⟩;rw[<-Iz]at pn Sv HCL;have Y0:Hid (Closing p s2 c w F s2 (wr.setCell ⟨p,10,none⟩ (.slice dP n1 eQ))):=⟨Sv.out.inv,Sv.out.bd,ae _,pn.out,⟨_,ae _,rfl⟩⟩;have Mn:s1.reqs.length=s2.reqs.length:=by rw[Iz]
   rw[Mn]at HCL;clear pn Iz Mn;go_wp2_with fail;go_loopw [8] (fun _ wr=> ∃s':St,Hid (Closing p s2 c w F s' wr)) (fun _ wr=>zn p wr)
   case atStart=>exact⟨s2,Y0⟩
   case round=>
    clear Y0;obtain⟨s',HC⟩:=hrel;have kH:Fine 15600100 s':=⟨HC.out.inv,HC.out.bd,aw HC.out.sz Sv.out.sz⟩;have jY:=hide kH;have PL:=kH.lens;obtain⟨F1,cd,N3⟩:=H8 HC.out.goes;obtain⟨m,g,hr,az⟩:=bD cd;have dU:=bR hr az;have R6:=hide (Bl dU);obtain⟨ao,cap,G,c6,HG,fT⟩:=dU.reqs;have Oc:Hid (∀r∈s'.reqs,0<=r.id∧r.id<=999999):=fun r hr=>(kH.bd.rq r hr).id;have WC:Hid (s'.least c=leastOf c (s'.reqs.take s'.reqs.length)):=by show _=_;rw[List.take_length];rfl
    clear cd N3 hr az dU kH;obtain⟨wo,rfl⟩: ∃wo,wo=wr:=⟨_,rfl⟩;go_wp2_with fail;go_loopw [8,44] (fun b i wr2=> ∃k:Nat,k<=s'.reqs.length∧i= .int .i64 k∧(∃bi:Int,b= .int .i64 bi∧ -1<=bi∧bi<=999999∧Hid (bi=lsI (leastOf c (s'.reqs.take k))))∧Below wo.heap.size wo wr2) (fun _ i _=>s'.reqs.length-(intOf i).toNat)
    case atStart=>exact⟨0,aJ _,rfl,⟨-1,rfl,by omega,by omega,rfl⟩,ah _ _⟩
    case round=>
     clear c6;obtain⟨k,hk,rfl,⟨bi,rfl,iO,hb1,HB⟩,hB⟩:=hrel;have cg:=hB.size;by_cases ay:k<s'.reqs.length
     ·obtain⟨g',off,rfl⟩:=fT.out (by omega);obtain⟨d0,d1,d2,d3,d4,d5,d6⟩:=fH (au HG.out hB) ay;have oK:=Oc.out _ (aY ay);have iP:=hide (yS (c:=c) ay);obtain⟨w3,rU,iH,BN,cP,Sk⟩:=ud hB cg #[.int .i64 (s'.reqs[k]'ay).id, .int .i64 (s'.reqs[k]'ay).conn, .string ⟨(s'.reqs[k]'ay).ten.toArray⟩, .string ⟨(s'.reqs[k]'ay).txt.toArray⟩, .int .i64 (s'.reqs[k]'ay).n, .int .i64 (s'.reqs[k]'ay).left, .bool (s'.reqs[k]'ay).bn] 174;have b0:w3.cell? ⟨wr.heap.size,0,none⟩=some (.int .i64 (s'.reqs[k]'ay).id):=bg cP;have b1:w3.cell? ⟨wr.heap.size,1,none⟩=some (.int .i64 (s'.reqs[k]'ay).conn):=bg cP;cases hq:((s'.reqs[k]'ay).conn==c)
      ·have HN:Hid (bi=lsI (leastOf c (s'.reqs.take (k+1)))):=by show _=_;rw[iP.out,hq];exact HB.out
       clear HB iP;go_wp2;go_roundw
       case rel=>exact⟨k+1,by omega,by go_num,⟨bi,rfl,iO,hb1,HN⟩,iH⟩
       case measure=>simp[intOf];omega
      ·cases hd:leastOf c (s'.reqs.take k)with
       |none=>
        have Pw:bi= -1:=by rw[HB.out,hd];rfl
        have HN:Hid ((s'.reqs[k]'ay).id=lsI (leastOf c (s'.reqs.take (k+1)))):=by show _=_;rw[iP.out,hd,hq];rfl
        subst Pw;clear HB iP;go_wp2;go_roundw
        case rel=>exact⟨k+1,by omega,by go_num,⟨_,rfl,by omega,by omega,HN⟩,iH⟩
        case measure=>simp[intOf];omega
       |some i=>
        have Pw:bi=i:=by rw[HB.out,hd];rfl
        have kR:0<=i:=by obtain⟨r,hr,e⟩:=vn k hk i hd;exact e▸(Oc.out r hr).1
        have Ml:decide (i<0)=false:=by simp;omega
        subst Pw;by_cases lK:(s'.reqs[k]'ay).id<bi
        ·have HN:Hid ((s'.reqs[k]'ay).id=lsI (leastOf c (s'.reqs.take (k+1)))):=by
          show _=_;rw[iP.out,hd,hq,if_pos (by simpa using lK)];rfl
         clear HB iP;go_wp2;go_roundw
         case rel=>exact⟨k+1,by omega,by go_num,⟨_,rfl,by omega,by omega,HN⟩,iH⟩
         case measure=>simp[intOf];omega
        ·have hnl:decide ((s'.reqs[k]'ay).id<bi)=false:=by simpa using lK
         have HN:Hid (bi=lsI (leastOf c (s'.reqs.take (k+1)))):=by show _=_;rw[iP.out,hd,hq,if_neg (by simpa using lK)];rfl
         clear HB iP;go_wp2;go_roundw
         case rel=>exact⟨k+1,by omega,by go_num,⟨_,rfl,by omega,by omega,HN⟩,iH⟩
         case measure=>simp[intOf];omega
     ·obtain rfl:k=s'.reqs.length:=by omega
      rw[<-WC.out]at HB;have nt:Hid (Goes (aU p s') w F wr):=HC.out.goes.below hB;clear hB HG fT WC;cases hle:s'.least c with
      |none=>
       have Pw:bi= -1:=by rw[HB.out,hle];rfl
       subst Pw;have abA:=hide (HCL.out s' (HC.out.done hle));clear HB HCL HC hle R6 Oc;have Hf:Hid (∀(s4:St) (w':World) (F':Ft),Bd 1099511627776 s4->s4.af.length<=16777216->(aU p s4).holds w' F'->Calls prog 113 #[.pointer (some ⟨p,0,none⟩), .int .i64 (-1), .int .i64 c] w' fun e dV=>e= .returned (.int .i64 (jV (s4.af.findIdx? (·.conn==c))))∧Below w'.heap.size w' dV):=fun s4 w' F' hb hl h=>by obtain⟨m,g,hr,ho⟩:=bD h;have:=first_any p (-1) c s4 m g w' (bR hr ho) hl;rw[H0 hb]at this;exact this
       obtain⟨F4,th⟩:=nt.out.facts;have HF4:=hide th;clear th;go_wp2_with fail;refine(Hf.out s' wr F4 jY.out.bd (by omega) HF4.out).mono ?_;rintro e w4⟨rfl,l9⟩;have C5:Hid (Leaving p s' c w F s' w4):=⟨jY.out.inv,jY.out.bd,ae _,nt.out.below l9,⟨_,ae _,rfl⟩⟩;clear l9 HF4 nt;go_wp2_with fail;go_loopw [12] (fun i wr=> ∃s4:St,i= .int .i64 (jV (s4.af.findIdx? (·.conn==c)))∧Hid (Leaving p s' c w F s4 wr)) (fun _ wr=>ij p wr)
       case atStart=>exact⟨s',rfl,C5⟩
       case round=>
        clear C5;obtain⟨s4,rfl,HL⟩:=hrel;have yC:Fine 15600100 s4:=⟨HL.out.inv,HL.out.bd,aw HL.out.sz jY.out.sz⟩;have He:=hide yC;have hl4:=yC.lens;cases hf:s4.af.findIdx? (·.conn==c)with
        |some k=>
         obtain⟨a,xy,DZ⟩:=St.eJ hf;have nC:k<s4.af.length:=(cK.1 xy).1;have wO:s4.af[k]'nC=a:=(cK.1 xy).2;have kJ:a.id∈s4.ks.map (·.1):=yC.inv.bS a (dn xy);obtain⟨F5,nZ⟩:=HL.out.goes.facts;obtain⟨m5,g5,Zo,PU⟩:=bD nZ;have BR:=bR Zo PU;have wI:=hide (iy BR);obtain⟨GJ,adp,G5,c7,xf,Zv⟩:=BR.af;obtain⟨g',off,rfl⟩:=Zv.out (by omega);obtain⟨x0,_,_,_,_⟩:=dZ xf.out nC;rw[wO]at x0;have jq:Hid (Calls prog 104 #[.pointer (some ⟨p,0,none⟩), .int .i64 k] wr (fZ p (s4.aS k) w F)):=
          cW HL.out.goes fun F2 h2=>hE p k s4 He.out.inv wr F2 h2 nC (by omega) (by omega) (by omega)
         have Zu:Hid (∀w',Goes (aU p (s4.aS k)) w F w'->Calls prog 105 #[.pointer (some ⟨p,0,none⟩), .int .i64 a.id, .bool false] w' (fZ p (gC s4 k a) w F)):=fun w' hg=>by have z1:=St.jT (s:=s4) k;have z2:=He.out.sz;exact cW hg fun F2 h2=>kZ p a.id false _ ⟨St.br He.out.inv k,He.out.bd.aS _,by omega⟩ (by rw[(St.cG (s:=s4) k).1];exact kJ) w' F2 h2
         have uM:Hid (∀w2,Goes (aU p (gC s4 k a)) w F w2->Leaving p s' c w F (gC s4 k a) w2):=fun w2 hg=>HL.out.next hf xy hg;have La:=hide (rL xy);have Sc:(0:Int)<=((k:Nat):Int):=by omega
         have BO:((k:Nat):Int)<((s4.af.length:Nat):Int):=by omega
         clear nZ Zo PU BR xf Zv xy DZ wO kJ HL hf yC;rw[show jV (some k)=((k:Nat):Int)from rfl];generalize gC s4 k a=s6 at*;generalize s4.aS k=s5 at*;go_wp2_with fail;refine jq.out.mono ?_;rintro e w5⟨rfl,hg5⟩;have HA5:=hide (Zu.out _ hg5);clear hg5 Zu jq x0 c7;go_wp2_with fail;refine HA5.out.mono ?_;rintro e w6⟨rfl,iJ⟩;have WB:=hide (uM.out _ iJ);obtain⟨F6,xu⟩:=iJ.facts;have HF6:=hide xu;have Af:=La.out;clear iJ xu HA5 uM;go_wp2_with fail;refine(Hf.out s6 w6 F6 WB.out.bd (by omega) HF6.out).mono ?_;rintro e w7⟨rfl,D1⟩;have HL7:Hid (Leaving p s' c w F s6 w7):=⟨WB.out.inv,WB.out.bd,WB.out.sz,WB.out.goes.below D1,WB.out.rest⟩;have hm7:ij p w7<ij p wr:=by obtain⟨m7,g7,hr7,ho7⟩:=bD (au HF6.out D1);rw[iy (bR hr7 ho7),wI.out];omega
         have HM7:=hide hm7;clear D1 hm7 HF6 WB;go_wp2;go_roundw
         case rel=>exact⟨s6,rfl,HL7⟩
         case measure=>exact HM7.out
        |none=>
         have gP:=HL.out.done hf;have Hj:Hid (Calls prog 110 #[.pointer (some ⟨p,0,none⟩)] wr (fZ p (s.close c) w F)):=by show Calls _ _ _ _ _;rw[abA.out,<-gP];exact cW HL.out.goes fun F2 h2=>vE p _ ⟨He.out.inv,He.out.bd,aw He.out.sz (by omega)⟩ wr F2 h2
         clear gP hf HL Hf yC;rw[show jV none= -1 from rfl];go_wp2_with fail;refine Hj.out.mono ?_;rintro e w5⟨rfl,hg5⟩;have HT:=hide (rk hg5);clear hg5 Hj;go_wp2_with fail;refine HT.out.mono ?_;rintro e w6⟨v,rfl,iJ⟩;have sf:=hide iJ;clear iJ;go_wp2;go_ret;exact⟨v,rfl,sf.out⟩
      |some id=>
       have Pw:bi=id:=by rw[HB.out,hle];rfl
       subst Pw;have kJ:=EI hle;have pE:0<=bi:=by obtain⟨r,_,hr,e⟩:=St.cz kJ;exact e▸(Oc.out r hr).1
       have Ml:decide (bi<0)=false:=by simp;omega
       have uM:Hid (∀w2,Goes (aU p (fB s' bi c)) w F w2->Closing p s2 c w F (fB s' bi c) w2):=fun w2 hg=>HC.out.next hle hg;have La:=hide (rN hle);have HKS:=hide kJ;have Y9:Hid (fO p s' bi c w F 0 s' wr):=⟨St.eB.refl _ _,ae _,nt.out,⟨_,by omega,rfl⟩⟩;clear HB HC hle kJ Oc nt;go_wp2_with fail;go_loopw [11] (fun i wr3=> ∃(k:Nat) (s3:St),i= .int .i64 k∧k<=16777216∧Hid (fO p s' bi c w F k s3 wr3)) (fun i wr3=>ij p wr3-(intOf i).toNat)
       case atStart=>exact⟨0,s',rfl,by omega,Y9⟩
       case round=>
        clear Y9;obtain⟨k,s3,rfl,TW,HO⟩:=hrel;have PG:Fine 15600100 s3:=⟨HO.out.st.inv jY.out.inv,jY.out.bd.stopped HO.out.st,aw HO.out.sz jY.out.sz⟩;have Sw:=hide PG;have NX:=PG.lens;obtain⟨F3,iX,Uf⟩:=H8 HO.out.goes;obtain⟨m3,g3,Iy,yG⟩:=bD iX;have Mi:=bR Iy yG;have wI:=hide (iy Mi);obtain⟨iN,eA,G3,c7,NI,aby⟩:=Mi.af;by_cases ay:k<s3.af.length
        ·obtain⟨g',off,rfl⟩:=aby.out (by omega);obtain⟨x0,x1,x2,x3,x4⟩:=dZ NI.out ay;obtain⟨a,wO⟩: ∃a,s3.af[k]'ay=a:=⟨_,rfl⟩;have xy:s3.af[k]?=some a:=by rw[a7 ay,wO]
         rw[wO]at x0 x2;have Af:=St.eH xy;cases ng:(a.id==bi)
         ·have SE:=hide (HO.out.miss xy (by rw[ng];rfl));clear HO iX Uf Iy yG Mi;go_wp2;go_roundw
          case rel=>exact⟨k+1,s3,by go_num,by omega,SE⟩
          case measure=>rw[wI.out];simp[intOf];omega
         ·cases qN:(a.conn==c)
          ·have SE:=hide (HO.out.miss xy (by rw[ng,qN];rfl));clear HO iX Uf Iy yG Mi;go_wp2;go_roundw
           case rel=>exact⟨k+1,s3,by go_num,by omega,SE⟩
           case measure=>rw[wI.out];simp[intOf];omega
          ·have SE:Hid (∀w2,Goes (aU p (s3.aS k)) w F w2->fO p s' bi c w F k (s3.aS k) w2):=fun w2 hg=>HO.out.hit xy (by rw[ng,qN];rfl) hg;have jq:Hid (Calls prog 104 #[.pointer (some ⟨p,0,none⟩), .int .i64 k] wr (fZ p (s3.aS k) w F)):=
            cW HO.out.goes fun F2 h2=>hE p k s3 Sw.out.inv wr F2 h2 ay (by omega) (by omega) (by omega)
           have HEL:Hid ((s3.aS k).af.length+1=s3.af.length):=by show _=_;rw[(St.cG (s:=s3) k).2.1];exact Af
           clear HO iX Uf Iy yG Mi xy wO;generalize s3.aS k=s4 at*;go_wp2_with fail;refine jq.out.mono ?_;rintro e w5⟨rfl,hg5⟩;have Z0:=hide (SE.out _ hg5);have TY:ij p w5<ij p wr:=by obtain⟨F5,nZ⟩:=hg5.facts;obtain⟨m5,g5,Zo,ho5⟩:=bD nZ;rw[iy (bR Zo ho5),wI.out];have:=HEL.out;omega
           have hm6:k<ij p wr:=by rw[wI.out];exact ay
           clear hg5 SE jq;go_wp2;go_roundw
           case rel=>exact⟨k,s4,rfl,TW,Z0⟩
           case measure=>simp[intOf];omega
        ·have gP:=HO.out.done (by omega);have qc:=HO.out.st;have CS:Hid (Calls prog 112 #[.pointer (some ⟨p,0,none⟩), .int .i64 bi] wr (fZ p (fB s' bi c) w F)):=by
          have e:fB s' bi c=s3.shut bi:=by unfold fB;rw[<-gP]
          rw[e];exact cW HO.out.goes fun F2 h2=>jh p bi s3 ⟨Sw.out.inv,Sw.out.bd,aw Sw.out.sz (by omega)⟩ (by rw[qc.ks];exact HKS.out) wr F2 h2
         clear HO iX Uf Iy yG Mi gP qc;generalize fB s' bi c=s5 at*;go_wp2_with fail;refine CS.out.mono ?_;rintro e w5⟨rfl,hg5⟩;have HC5:=hide (uM.out _ hg5);have TY:zn p w5<zn p wo:=by obtain⟨F5,nZ⟩:=hg5.facts;obtain⟨m5,g5,Zo,ho5⟩:=bD nZ;rw[Bl (bR Zo ho5),R6.out];have:=La.out;omega
         have WG:=hide TY;clear hg5 TY uM CS;go_wp2;go_roundw
         case rel=>exact⟨s5,HC5⟩
         case measure=>exact WG.out
end Mr
namespace Lw
open Go.RowKit aM Mc Mr fA bJ
attribute [local go_sem] aL.ag aL.ar
theorem AA{base:Nat}{dz:World}(P:uO base dz)(wp n:Nat)(aO:List Pr)(hs:List (Value×Nat))(x:fU)(w:World)(F:Ft)(hp:Pre P wp n aO hs w F)(hn:n+x.s.size+1<=1048576)(hx:x.k=6)(ha:I64 x.a)(hb:I64 x.b):Calls prog 37 #[.pointer (some ⟨wp,0,none⟩), .agg x.cs] w (gu P wp (n+x.s.size+1)):=by
 obtain⟨k,a,b,le,re,ca,bo,he,s⟩:=x;simp only at hx hn ha hb⊢;subst hx;simp only[fU.cs]at*;have HP:=hide hp;obtain⟨ds,ls,ao,cp,c0,PQ,XW,Ej,qb,Mk,xL,GF,j6⟩:=rh hp (by omega) ha;have GG:=hide hp.good;clear hp;by_cases h0:aO.length=0
 ·rw[h0]at c0;clear j6;go_enter func37,ntmps37;go_wp2;go_ret;exact HP.out.same ((ah _ _).alloc (ae _) _) (by omega)
 have j7:0<aO.length:=by omega
 obtain⟨g,off,i,dM,rfl,Hi,q0,q1,sG,sH,AG⟩:=j6 j7;clear j6;go_enter func37,ntmps37;go_wp2_with fail;go_region_held3 (fun w'=>w'.cell? ⟨wp,0,none⟩=some (.slice (some ⟨g,off,none⟩) aO.length cp)∧w'.cell? ⟨w.heap.size,1,none⟩=some (.int .i64 a)∧w'.cell? ⟨g,off+i*2,none⟩=some (.pointer (some ⟨(aO[i]'dM).x,0,none⟩))∧w'.cell? ⟨g,off+i*2+1,none⟩=some (.pointer (some ⟨(aO[i]'dM).m,0,none⟩))) (go_keep)
  (first|(go_at_call 59;refine(Hi.out _).mono ?_;rintro e w1⟨rfl,rfl⟩))
 all_goals
  clear q0 q1 c0 qb sH Mk;obtain⟨w0,nj,iO,IE,gI,o0,o2,o8,r0,r1,HK⟩:=nU GF 6 a b le re ca bo he s (aO[i]'dM).x (aO[i]'dM).m;rw[nj];clear nj;have qM:=HP.out.below iO;have wP:=qM.big;have hold:=qM.old;have kt:(jl P wp aO hs ds ls).holds w0 F:=au xL.out iO;have Im:Mc.Good (n+s.size+1) ((aO[i]'dM).s.close b):=(AG.out.close b).le (by omega);have vU:((aO[i]'dM).s.close b).out.length<=33554432:=by have:=Im.sz;unfold St.sz at this;omega
  have lI:=oX P wp aO hs ds ls i dM ((aO[i]'dM).s.close b) w0 F kt (by omega) vU (f1:=27) (f2:=62) (args1:= #[.pointer (some ⟨(aO[i]'dM).x,0,none⟩), .int .i64 b]) (args2:= #[.pointer (some ⟨(aO[i]'dM).m,0,none⟩), .int .i64 b])
   (fun G1 lH=>P.close _ b n _ w0 G1 wP hold hb AG.out (by omega) lH) (fun w' G1 lH=>close_any _ b _ AG.out (by omega) w' G1 lH)
  have JW:=hide lI;have fg:Hid (∀a' w',Goes (AE P wp (aO.set i ⟨(aO[i]'dM).x,(aO[i]'dM).m,((aO[i]'dM).s.close b).told⟩) (hs++ [(a',((aO[i]'dM).s.close b).out.length+2)])) w0 F w'->gu P wp (n+s.size+1) (.returned (.bool true)) w'):=fun a' w' hg=>⟨rfl,qM.next hg (by omega) (ur GG.out (by omega) Im.told) (by rw[List.length_set];omega) (by simp)⟩
  clear lI qM kt Im vU;go_wp2_with fail;refine JW.out.mono ?_;rintro e w1⟨v,rfl,QP,hc⟩;obtain⟨Yy,Yz,YA,YE,YF⟩:=HK.out _ QP;have wJ:=hide hc;clear hc QP o0 o2 o8 r0 r1 JW;go_wp2_with fail;refine wJ.out.mono ?_;rintro e w2⟨v2,rfl,QQ,hc⟩;obtain⟨Jc,Jd,Je,Jl,Jm⟩:=HK.out _ QQ;have JV:=hide hc;clear hc QQ Yy Yz YA YE YF wJ;go_wp2_with fail;refine JV.out.mono ?_;rintro e w3⟨rfl,YB,hc⟩;have N8:=hide hc;clear hc YB Jc Jd Je Jl Jm JV;go_wp2_with fail;refine N8.out.mono ?_;rintro e w4⟨rfl,a',kI⟩;have HX:=hide (fg.out a' _ kI);clear kI fg N8 HK;go_wp2;go_ret;exact HX.out
theorem CI{base:Nat}{dz:World}(P:uO base dz)(wp n:Nat)(aO:List Pr)(hs:List (Value×Nat))(x:fU)(w:World)(F:Ft)(hp:Pre P wp n aO hs w F)(hn:n+x.s.size+1<=1048576)(hx:x.k=7)(ha:I64 x.a)(hb:I64 x.b):Calls prog 37 #[.pointer (some ⟨wp,0,none⟩), .agg x.cs] w (gu P wp (n+x.s.size+1)):=by
 obtain⟨k,a,b,le,re,ca,bo,he,s⟩:=x;simp only at hx hn ha hb⊢;subst hx;simp only[fU.cs]at*;have HP:=hide hp;obtain⟨ds,ls,ao,cp,c0,PQ,XW,Ej,qb,Mk,xL,GF,j6⟩:=rh hp (by omega) ha;have GG:=hide hp.good;clear hp;by_cases h0:aO.length=0
 ·rw[h0]at c0;clear j6;go_enter func37,ntmps37;go_wp2;go_ret;exact HP.out.same ((ah _ _).alloc (ae _) _) (by omega)
 have j7:0<aO.length:=by omega
 obtain⟨g,off,i,dM,rfl,Hi,q0,q1,sG,sH,AG⟩:=j6 j7;clear j6;go_enter func37,ntmps37;go_wp2_with fail;go_region_held3 (fun w'=>w'.cell? ⟨wp,0,none⟩=some (.slice (some ⟨g,off,none⟩) aO.length cp)∧w'.cell? ⟨w.heap.size,1,none⟩=some (.int .i64 a)∧w'.cell? ⟨g,off+i*2,none⟩=some (.pointer (some ⟨(aO[i]'dM).x,0,none⟩))∧w'.cell? ⟨g,off+i*2+1,none⟩=some (.pointer (some ⟨(aO[i]'dM).m,0,none⟩))) (go_keep)
  (first|(go_at_call 59;refine(Hi.out _).mono ?_;rintro e w1⟨rfl,rfl⟩))
 all_goals
  clear q0 q1 c0 qb sH Mk;obtain⟨w0,nj,iO,IE,gI,o0,o2,o8,r0,r1,HK⟩:=nU GF 7 a b le re ca bo he s (aO[i]'dM).x (aO[i]'dM).m;rw[nj];clear nj;have qM:=HP.out.below iO;have wP:=qM.big;have hold:=qM.old;have kt:(jl P wp aO hs ds ls).holds w0 F:=au xL.out iO;rw[open_pair P wp aO hs ds ls i dM]at kt;obtain⟨GX,_,hX,⟨GM,_,hM,_,_,_⟩,_,_⟩:=kt;have HLX:Hid (∀w',Below w0.heap.size w0 w'->Calls prog 25 #[.pointer (some ⟨(aO[i]'dM).x,0,none⟩)] w' (pN (aO[i]'dM).s w')):=fun w' iI=>P.look _ n _ w' GX (aw wP iI.size) (hold.trans (iI.mono wP)) AG.out (by omega) (au hX iI)
  have HLM:Hid (∀w',Below w0.heap.size w0 w'->Calls prog 63 #[.pointer (some ⟨(aO[i]'dM).m,0,none⟩)] w' (pN (aO[i]'dM).s w')):=fun w' iI=>by obtain⟨mm,gg,hr,ho⟩:=bD (au hM iI);have hf:=qJ AG.out (by omega);have hl:=hf.lens;exact Qr _ _ AG.out.inv mm gg w' (bR hr ho) (by omega)
  have HSS:Hid (∀w',Below w0.heap.size w0 w'->gu P wp (n+s.size+1) (.returned (.bool true)) w'):=fun w' iI=>HP.out.same (iO.trans (iI.mono iO.size)) (by omega);have HKB:Hid (∀w',Below w0.heap.size w0 w'->w'.cell? ⟨w.heap.size+1,0,none⟩=some (.pointer (some ⟨(aO[i]'dM).x,0,none⟩))∧w'.cell? ⟨w.heap.size+1,1,none⟩=some (.pointer (some ⟨(aO[i]'dM).m,0,none⟩))):=fun w' iI=>by obtain⟨_,_,_,h3,h4⟩:=HK.out w' ((Only.refl F w0).below iI);exact⟨h3,h4⟩
  clear hX hM qM HK;generalize(aO[i]'dM).s=st at*;go_wp2_with fail;go_region_held3 (fun w'=>w'.cell? ⟨w.heap.size+1,0,none⟩=some (.pointer (some ⟨(aO[i]'dM).x,0,none⟩))∧w'.cell? ⟨w.heap.size+1,1,none⟩=some (.pointer (some ⟨(aO[i]'dM).m,0,none⟩))) (go_keep)
   (first
    |(go_at_call 25;refine(HLX.out _ (by first|exact(ah _ _).drew|assumption)).mono ?_;rintro e w4⟨rfl,l9⟩;have pI:=bj (wr:=w0) (by first|exact(ah _ _).drew|assumption) l9;obtain⟨t1,t2⟩:=HKB.out _ pI)
    |(go_at_call 63;refine(HLM.out _ (by first|exact(ah _ _).drew|assumption)).mono ?_;rintro e w5⟨rfl,uI⟩;have CU:=bj (wr:=w0) (by first|exact(ah _ _).drew|assumption) uI;obtain⟨t3,t4⟩:=HKB.out _ CU))
  all_goals
   first
    |have HX:=hide (HSS.out _ CU)
     go_wp2;go_ret;exact HX.out
    |have HX:=hide (HSS.out _ pI)
     go_wp2;go_ret;exact HX.out
end Lw
namespace Pj
open bJ
theorem qs:Mr.fV:=fun s w hs=>Q3 EO s w hs
