import Derived.Test.YtffamlbkmjmipaaGreatDoorC26
set_option maxHeartbeats 8000000
set_option maxRecDepth 100000
namespace Go.Proofs.YtffamlbkmjmipaaGreatDoor
open _root_.Go.Proofs.Tryz
namespace Pj
open Go.RowKit aM Mc bJ
attribute [local go_sem] ag ar
variable{s s':St}{n k base x tb:Nat}{c:Int}{g:Gh}{cn:List (Int×Nat×Bs)}{w:World}{F:Ft}
theorem yr{α:Type}{p:α->Bool}: ∀{l:List α} {a:α} {r:List α},l.filter p=a::r-> ∃i,l[i]?=some a∧p a=true∧(l.eraseIdx i).filter p=r
 | [],a,r,h=>by cases h
 |y::l,a,r,h=>by
  by_cases e:p y=true
  ·rw[List.filter_cons_of_pos e]at h;obtain⟨rfl,h2⟩:=List.cons.inj h;exact⟨0,rfl,e,h2⟩
  ·rw[List.filter_cons_of_neg e]at h;obtain⟨i,h1,h2,h3⟩:=yr h;exact⟨i+1,by simpa using h1,h2,by rw[List.eraseIdx_cons_succ,List.filter_cons_of_neg e];exact h3⟩
theorem AJ{id:Int}{q:Rq}(hq:s.req id=some q):s.again id false=if(s.waits id||decide (0<s.count id))=true then s else s.a6 id true:=by
 unfold St.again;by_cases h:(s.waits id||decide (0<s.count id))=true
 ·rw[if_pos h,if_pos h]
 ·rw[if_neg h,if_neg h,hq];simp
structure Giving(n:Nat)(s:St)(c:Int)(k:Nat)(s':St):Prop where
 sd:Sd n s'
 is:s'=((s.af.filter fun a=>a.conn==c).take k).foldl St.nK s
 left:s'.af.filter (fun a=>a.conn==c)=(s.af.filter fun a=>a.conn==c).drop k
theorem Sd.W4(h:Sd n s)(id:Int):Sd n (s.again id false):=
 ⟨St.eC h.inv id false,h.ok.again h.inv id false,aw (St.mU id) h.sz,h.bd.again h.inv id false⟩
theorem Giving.step(h:Giving n s c k s')(hk:k<(s.af.filter fun a=>a.conn==c).length): ∃i,s'.af[i]?=some (s.af.filter fun a=>a.conn==c)[k]∧Giving n s c (k+1) ((s'.aS i).again (s.af.filter fun a=>a.conn==c)[k].id false):=by
 have hl:=h.left;rw[<-List.getElem_cons_drop (h:=hk)]at hl;obtain⟨i,h1,h2,h3⟩:=yr hl;refine⟨i,h1,(h.sd.Kf i).W4 _, ?_, ?_⟩
 ·rw[fp hk,List.foldl_append,<-h.is];show _=St.nK s' _;unfold St.nK;rw[St.xo h.sd.ok h1]
 ·rw[St.nu,(St.cG (s:=s') i).2.1];exact h3
structure Gives(base x tb:Nat)(g:Gh)(cn:List (Int×Nat×Bs))(n:Nat)(s:St)(c:Int)(v':Value)(w:World)(F:Ft)(k:Nat)(s':St)(wr:World):Prop where
 on:Giving n s c k s'
 goes:Goes (aa (stA base x tb g cn s') (rowA 127 1 v' (s.af.filter fun a=>a.conn==c).length ((s.af.filter fun a=>a.conn==c).map fun a=>pt (g.ap (key a))))) w F wr
theorem Gives.round{v':Value}{wr:World}(T:Tabs base w)(hF: ∀k,F k->base<=k)(hn:n<=16776000)(h:Gives base x tb g cn n s c v' w F k s' wr){L:List At}(hL:s.af.filter (fun a=>a.conn==c)=L)(hk:k<L.length): ∃(b off cap:Nat),v'= .slice (some ⟨b,off,none⟩) L.length cap∧wr.cell? ⟨b,off+k,none⟩=some (pt (g.ap (key L[k])))∧Calls prog 80 #[pt x,pt tb,pt (g.ap (key L[k]))] wr fun e w3=>e= .returned (.tuple #[])∧w3.cell? ⟨g.ap (key L[k]),1,none⟩=some (pt (g.rp L[k].id))∧ ∃go:Bool,Hid (Calls prog 82 #[pt (g.rp L[k].id)] w3 fun e w4=>e= .returned (.bool go)∧w4=w3)∧(go=true->Hid (∃wy,Gives base x tb g cn n s c v' w F (k+1) wy w3))∧(go=false->Hid (Calls prog 83 #[pt x,pt (g.rp L[k].id)] w3 fun e w5=>e= .returned (.tuple #[])∧Hid (∃wy,Gives base x tb g cn n s c v' w F (k+1) wy w5))):=by
 subst hL;obtain⟨F1,cd,o1,n1⟩:=h.goes;obtain⟨G,H,ha,hb,d,e⟩:=id cd;have pF:=h.on;have hz:=pF.sd.sz;have T1:Tabs base wr:=T.goes hF ⟨F1,cd,o1,n1⟩;obtain⟨i,sB,KJ⟩:=pF.step hk;generalize eL:(s.af.filter fun a=>a.conn==c)[k]=a at*;obtain⟨aor,Hr,rfl,dF,bI⟩:=Mr.bO hb;obtain⟨b,off,rfl⟩:=bI (by omega);refine⟨b,off,Hr,rfl, ?_, ?_⟩
 ·rw[bm hb k (by omega),List.getElem?_map,a7 hk,eL];rfl
 ·refine(hE T1 ha pF.sd.inv pF.sd.ok (by omega) sB).mono ?_;rintro e' w3⟨rfl,kk,hg⟩;have g3:=(aV hb hg d e).eq (bX _ _ _);obtain⟨F3,iX,o3,n3⟩:=id g3;obtain⟨G3,H3,Zh,mh,d3,e3⟩:=id iX;have rD:=(dC mh).1;have T3:Tabs base w3:=T1.goes (dx ha) hg.drop;have hs3:=pF.sd.Kf i;have Sk:=hs3.sz;obtain⟨q,hq,yH,Ix⟩:=St.cz (pF.sd.inv.bS a (dn sB));have Zn:(s'.aS i).req a.id=some q:=by rw[qu];exact hq
  refine⟨rfl,by simp only[World.cell?,rD];rfl,_,yw Zh hs3.inv (by omega) Zn,fun bK=> ?_,fun bK=> ?_⟩
  ·refine⟨_,KJ, ?_⟩;rw[AJ Zn,if_pos bK];refine aF o1 n1 (g3.trans fun F' h'=> ?_);exact qI ((Goes.refl h').eq (bq _ _ _))
  ·show Calls _ _ _ _ _;refine(uC T3 Zh hs3.inv (by omega) Zn).mono ?_;rintro e' w5⟨rfl,hg5⟩;refine⟨rfl, ?_⟩;refine⟨_,KJ, ?_⟩;rw[AJ Zn,if_neg (by rw[bK];simp)];have g5:=aF o3 n3 (aV mh hg5 d3 e3);exact aF o1 n1 (qI (g5.eq (bq _ _ _)))
theorem Pm(T:Tabs base w)(h:(stA base x tb g cn s).holds w F)(hs:Sd n s)(hn:n<=16776000)(c:Int):Calls prog 45 #[pt x,pt tb, .int .i64 c] w fun e w'=>e= .returned (.tuple #[])∧Goes (stA base x tb g cn (St.aP s.af.length s c)) w F w':=by
 have hz:=hs.sz;have hF:=dx h;have C8:Hid (Calls prog 68 #[pt x, .func (.func 124) #[] #[pt w.heap.size]] (w.alloc (.cells #[.int .i64 c] 3)) fun e w'=> ∃iw cM,e= .returned (.slice iw (s.af.filter fun a=>a.conn==c).length cM)∧Hid (Gives base x tb g cn n s c (.slice iw (s.af.filter fun a=>a.conn==c).length cM) w F 0 s w')):=by
  show Calls _ _ _ _ _;have hB:Below w.heap.size w (w.alloc (.cells #[.int .i64 c] 3)):=(ah _ _).alloc (ae _) _;refine(wx h hs.inv (by omega) hB (fun a=>a.conn==c) 124 #[pt w.heap.size] (enters_of func124 (by kernel_rfl) rfl) (fun wr hr a Zi=> ?_)).mono ?_
  ·obtain⟨kk,q,hq,Ix,oa,av,zI⟩:=K5 h hs.inv (by omega) Zi;have ay:g.ap (key a)<w.heap.size:=(cT.1 oa).1;refine qL (g.ap (key a)) w.heap.size c a.conn wr ?_ ?_
   ·rw[hr.cell (p:=⟨_,2,none⟩) (bP ay hB.size),hB.cell (p:=⟨_,2,none⟩) ay];simp only[World.cell?,oa];rfl
   ·rw[hr.cell (p:=⟨w.heap.size,0,none⟩) (by simp)];simp only[World.cell?,heap_alloc_new];rfl
  ·rintro e w'⟨v',rfl,_,hg⟩;have ld:=hg;obtain⟨F1,cd,_⟩:=hg;obtain⟨G,H,_,bN,_⟩:=cd;obtain⟨iw,cM,rfl⟩:=aX (Goes.refl bN);exact⟨iw,cM,rfl,⟨⟨hs,rfl,by simp⟩,ld⟩⟩
 have pM:Hid (∀k (hk:k<(s.af.filter fun a=>a.conn==c).length) v' s' wr,Gives base x tb g cn n s c v' w F k s' wr->_):=fun k hk v' s' wr hb=>hb.round T hF hn rfl hk;have fg:Hid (∀v' s' wr,Gives base x tb g cn n s c v' w F (s.af.filter fun a=>a.conn==c).length s' wr->Goes (stA base x tb g cn (St.aP s.af.length s c)) w F wr):=fun v' s' wr hb=>by have:=hb.goes.drop;rw[hb.on.is,List.take_length,<-St.pP _ s.af.length s c hs.inv hs.ok rfl (List.length_filter_le ..)]at this;exact this
 have PN:(s.af.filter fun a=>a.conn==c).length<=16777216:=by have h1:(s.af.filter fun a=>a.conn==c).length<=s.af.length:=List.length_filter_le ..;unfold St.sz at hz;omega
 clear h;unfold pt at*;generalize hL:(s.af.filter fun a=>a.conn==c)=L at*;clear hL;go_enter func45,ntmps45;go_wp2_with (first
  |(go_at_call 79;go_must(refine(lJ c _).mono ?_;rintro e w6⟨rfl,rfl⟩))
  |(go_at_call 68;go_must(refine C8.out.mono ?_;rintro e w2⟨iw,cM,rfl,NH⟩)))
 clear C8;go_loopw [13] (fun i wr=> ∃k:Nat,k<=L.length∧i= .int .i64 k∧ ∃s',Hid (Gives base x tb g cn n s c (.slice iw L.length cM) w F k s' wr)) (fun i _=>L.length-(intOf i).toNat)
 case atStart=>exact⟨0,aJ _,rfl,s,NH⟩
 case round=>
  obtain⟨k,hk,rfl,s',pL⟩:=hrel;by_cases ay:k<L.length
  ·obtain⟨b,off,b9,ev,c0,wQ⟩:=pM.out k ay _ _ _ pL.out;cases ev;have jq:=hide wQ;clear pM pL NH fg wQ;generalize g.ap (key L[k])=ap at*;generalize g.rp L[k].id=rp at*;go_wp2_with (first
    |(go_at_call 80;go_must(refine jq.out.mono ?_;rintro e w3⟨rfl,c1,go,nt,rG,sI⟩;have HY:=hide rG;have HN:=hide sI;clear rG sI jq;cases go))
    |(go_at_call 82;go_must(refine nt.out.mono ?_;rintro e w4⟨rfl,rfl⟩))
    |(go_at_call 83;go_must(refine(HN.out (by first|rfl|trivial)).out.mono ?_;rintro e w5⟨rfl,uM⟩)))
   ·go_roundw
    case rel=>obtain⟨wy,hb⟩:=uM.out;exact⟨k+1,by omega,by go_num,wy,hb⟩
    case measure=>simp[intOf];omega
   ·go_roundw
    case rel=>obtain⟨wy,hb⟩:=(HY.out (by first|rfl|trivial)).out;exact⟨k+1,by omega,by go_num,wy,hb⟩
    case measure=>simp[intOf];omega
  ·obtain rfl:k=L.length:=by omega
   have HE:=hide (fg.out _ _ _ pL.out);clear pM pL NH fg;go_wp2;go_end0;exact⟨rfl,HE.out⟩
