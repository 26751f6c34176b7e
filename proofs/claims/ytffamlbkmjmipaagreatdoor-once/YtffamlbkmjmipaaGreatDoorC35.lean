import Derived.Test.YtffamlbkmjmipaaGreatDoorC27
import Derived.Test.YtffamlbkmjmipaaGreatDoorC33
set_option maxHeartbeats 8000000
set_option maxRecDepth 100000
namespace Go.Proofs.YtffamlbkmjmipaaGreatDoor
open _root_.Go.Proofs.Tryz
namespace Pj
open Go.RowKit aJ Mc bG ud Go.Lib
attribute [local go_sem] ae ag
section
variable{p:Nat}{dr:Bool}{kv:Value}{r:Bs}{w w1:World}{F:Ft}
theorem rN(h:(aa (Dn p dr kv) (I9 kv r)).holds w F):w.heap[p]?=some (.cells #[kv, .bool dr] 107 (0,0))∧w.ownsRow 0 5 1 kv r.length (mE r)∧kv.ownBlock≠some p∧ ∀k,F k↔k=p∨kv.ownBlock=some k:=by obtain⟨G,H,⟨h1,h2⟩,⟨h3,h4⟩,d,e⟩:=h;exact⟨h1,h3,fun e'=>d p ((h2 p).2 rfl) ((h4 p).2 e'),fun k=>by rw[e k,h2 k,h4 k]⟩
theorem Od{v':Value}{n:Nat}{xs:Bs}(h:(aa (Dn p dr kv) (I9 kv r)).holds w F)(hn:n=xs.length)(cY:w1.ownsRow 0 5 1 v' n (mE xs))(hg:w.grownBy w1 kv.ownBlock)(mN:v'.ownBlock=kv.ownBlock∨v'.ownBlock=some w.heap.size):Goes (aa (Dn p dr v') (I9 v' xs)) w F (w1.setCell ⟨p,0,none⟩ v'):=by
 obtain⟨h1,h2,h3,h4⟩:=rN h;have Rn:p<w.heap.size:=(cC.1 h1).1;have bT:w1.heap[p]?=some (.cells #[kv, .bool dr] 107 (0,0)):=(hg.block p Rn (fun e=>h3 e.symm)).trans h1;have cA:v'.ownBlock≠some p:=fun e=>by
  rcases mN with h|h
  ·exact h3 (h.symm.trans e)
  ·rw[h]at e;have:=Option.some.inj e;omega
 have o2:Only (fun b=>b=p) w1 (w1.setCell ⟨p,0,none⟩ v'):=(Only.refl _ _).setCell _ _ (fun _=>rfl);refine⟨fun k=>k=p∨v'.ownBlock=some k,⟨fun k=>k=p,fun k=>v'.ownBlock=some k,⟨heap_setCell_same w1 p 0 _ _ v' bT,fun k=>Iff.rfl⟩,⟨?_,fun k=>Iff.rfl⟩,fun k hk mQ=>cA (hk▸mQ),fun k=>Iff.rfl⟩, ?_,fun k hk=> ?_⟩
 ·subst hn;exact o2.row cY (fun b hb e=>cA (e▸hb))
 ·refine⟨o2.os.trans hg.os,o2.tape.trans hg.tape,o2.output.trans hg.output,ar hg.size o2.size,fun k hk Xy=> ?_⟩;have Rl:k≠p:=fun e=>Xy ((h4 k).2 (.inl e));rw[o2.block k (bD hk hg.size) Rl];exact hg.block k hk (fun e=>Xy ((h4 k).2 (.inr e.symm)))
 ·rcases hk with e|e
  ·exact .inl ((h4 k).2 (.inl e))
  ·rcases mN with h|h
   ·exact .inl ((h4 k).2 (.inr (h▸e)))
   ·rw[h]at e;right;have:=Option.some.inj e;omega
end
theorem Qu(p:Nat)(dr:Bool)(kv:Value)(r:Bs)(s:ByteArray)(w:World)(F:Ft)(h:(aa (Dn p dr kv) (I9 kv r)).holds w F)(hr:r.length<=81)(hs:s.size<=4000000000000000):Calls prog 49 #[pt p, .string s] w fun e w'=>e= .returned (.tuple #[])∧ ∃GM,Goes (aa (Dn p dr GM) (I9 GM ((r++s.data.toList).take 81))) w F w':=by
 obtain⟨i0,hi,mz,ja,jK⟩:=info_parts infoByte;obtain⟨hb,cY,cA,_⟩:=rN h;have c0:w.cell? ⟨p,0,none⟩=some kv:=by simp only[World.cell?,hb];rfl
 have f0:w.frozen? ⟨p,0,none⟩=false:=by simp only[World.frozen?,hb];simp
 have Rn:p<w.heap.size:=(cC.1 hb).1;obtain⟨ao,cp,rfl,hcp,_⟩:=rY cY;have HN:Hid ((Value.slice ao r.length cp).ownBlock≠some p):=cA;have HP:=hide h;clear h cA hb;obtain⟨k,hk⟩: ∃k,min (81-r.length) s.size=k:=⟨_,rfl⟩;have abI:min (81-(r.length:Int)) (s.size:Int)=(k:Int):=by omega
 have uw:k<=s.size:=by omega
 have abF:(k:Int)<=(s.size:Int):=by omega
 have hk0:0<=(k:Int):=by omega
 have hkt:(k:Int).toNat=k:=rfl;have HT:Hid (r++(s.extract 0 k).data.toList=(r++s.data.toList).take 81):=Mj r s hr hk;have NW:(s.extract 0 k).size<=4194304:=by simp;omega
 clear hk;unfold pt;go_enter func49,ntmps49;go_wp2_with fail
 go_region_law (refine qu (by rfl) _ _ 35 9 (by rfl) 0 5 i0 underlying35 underlying9 hi mz ja jK (.slice ao r.length cp) r.length (mE r) (by rfl) cY.drew (s.extract 0 k) (by rfl) (by unfold maxLen;omega) (by omega) (bh _) ?_;intro v' w1 NT mP mN;obtain⟨iQ,mn,rfl,_,_⟩:=rY NT;have c1:w1.cell? ⟨p,0,none⟩=some (.slice ao r.length cp):=(by rw[mP.cell_far _ (by simpa using Rn) (fun e=>HN.out e.symm)];exact c0);have f1:w1.frozen? ⟨p,0,none⟩=false:=(by rw[mP.frozen_far _ (by simpa using Rn) (fun e=>HN.out e.symm)];exact f0))
 all_goals
  go_end0;have dc:(s.extract 0 k).size=k:=by simp;omega
  rw[dc]at NT mN;refine⟨rfl,_,Od HP.out (n:=r.length+k) (by rw[<-HT.out,aH];simp;omega) ?_ ⟨mP.os,mP.tape,mP.output,mP.size,mP.block⟩ mN⟩;rw[<-HT.out,zk];exact NT
theorem Qv(p:Nat)(dr:Bool)(kv:Value)(r:Bs)(w:World)(F:Ft)(h:(aa (Dn p dr kv) (I9 kv r)).holds w F)(hr:r.length<=81):Calls prog 51 #[pt p] w fun e w'=>e= .returned (bs r)∧ ∃GM,Goes (aa (Dn p dr GM) (I9 GM [])) w F w':=by
 obtain⟨hb,cY,cA,_⟩:=rN h;have c0:w.cell? ⟨p,0,none⟩=some kv:=by simp only[World.cell?,hb];rfl
 have f0:w.frozen? ⟨p,0,none⟩=false:=by simp only[World.frozen?,hb];simp
 obtain⟨ao,cp,rfl,hcp,bQ⟩:=rY cY;have abn:(convert 35 9 (.slice ao r.length cp)).run prog w= .ok (.string ⟨r.toArray⟩) w:=by
  rcases Nat.eq_zero_or_pos r.length with h0|h0
  ·have V9:r= []:=List.eq_nil_of_length_eq_zero h0;subst V9;rcases cY.2 with⟨h,_⟩|⟨g,cap,cur,h,_⟩
   ·rw[h];rw[run_convert_bytes_string w _ _ _ none 0 0 underlying35 underlying5 underlying9];rfl
   ·rw[h];exact run_convert_bytes_back w _ _ _ ⟨g,0,none⟩ cap [] underlying35 underlying5 underlying9 (fun j hj=>absurd hj (by simp))
  ·obtain⟨g,rfl⟩:=bQ h0;refine run_convert_bytes_back w _ _ _ ⟨g,0,none⟩ cp r underlying35 underlying5 underlying9 (fun j hj=> ?_);have h:=cY.cells (g:=g) rfl j (.int .u8 (r[j].toNat:Int)) (by simp[mE,List.getElem?_eq_getElem hj]);exact h
 have abz:(r.length:Int)<=(cp:Int):=by omega
 have HF:Hid (Goes (aa (Dn p dr (.slice ao 0 cp)) (I9 (.slice ao 0 cp) [])) w F (w.setCell ⟨p,0,none⟩ (.slice ao 0 cp))):=
  Od h (n:=0) rfl (La cY) ⟨rfl,rfl,rfl,af _,fun _ _ _=>rfl⟩ (.inl (by cases ao<;>rfl))
 clear h hb cA cY bQ;unfold pt bs;go_enter func51,ntmps51;go_wp2;go_ret;exact⟨rfl,_,HF.out⟩
theorem GZ(p:Nat)(dr:Bool)(kv:Value)(r:Bs)(w:World)(F:Ft)(h:(aa (Dn p dr kv) (I9 kv r)).holds w F)(hr:r.length<=81):Calls prog 91 #[pt p] w fun e w'=>e= .returned (.bool (decide (r= [])))∧w'=w:=by
 obtain⟨hb,cY,cA,_⟩:=rN h;have c0:w.cell? ⟨p,0,none⟩=some kv:=by simp only[World.cell?,hb];rfl
 obtain⟨ao,cp,rfl,hcp,bQ⟩:=rY cY;have HB:Hid (((r.length:Int)==0)=decide (r= [])):=by
  show _=_;cases r with
  |nil=>rfl
  |cons a l=>simp;omega
 clear h hb cA cY bQ;unfold pt;go_enter func91,ntmps91;go_wp2;go_ret;exact⟨bG.cH HB.out,rfl⟩
end Pj
namespace Pj
open Go.RowKit aJ Mc bG
attribute [local go_sem] ae ag
section
variable{base x tb:Nat}{g:Gh}{cn:List (Int×Nat×Bs)}{s:St}{w w':World}{F:Ft}
theorem Af(s:St)(c:Int):c∈(s.conn c).aq.map (·.n):=by
 unfold St.conn;split
 ·rename_i h;obtain⟨y,hy,e⟩:=List.any_eq_true.1 h;exact az.2 ⟨y,hy,by simpa using e⟩
 ·exact az.2 ⟨_,List.mem_append_right _ (b9.2 rfl),rfl⟩
theorem Cz(T:Tabs base w)(h:(stA base x tb g cn s).holds w F)(hi:Inv s)(hz:s.sz<=16776000)(c:Int)(hc:I6 c):Calls prog 47 #[pt x, .int .i64 c] w fun e w'=> ∃p b LM,e= .returned (pt p)∧(c,p,b)∈LM∧((LM=cn∧(c,p,b)∈cn)∨(c∉cn.map (·.1)∧b= []∧LM=cn++ [(c,p, [])]))∧Goes (stA base x tb g LM (s.conn c)) w F w':=by
 by_cases hm:c∈cn.map (·.1)
 ·obtain⟨⟨c',p,b⟩,hk,rfl⟩:=az.1 hm;refine(uh h hc hk).mono ?_;rintro e w'⟨rfl,rfl⟩;refine⟨p,b,cn,rfl,hk, .inl ⟨rfl,hk⟩, ?_⟩;exact BH (Goes.refl h) (St.iZ c').2.2.2.2.1 (fun j hj=>hj.conn c')
 ·obtain⟨j,r1,r2,r3,hF,hh⟩:=h;have wf:=dJ r1 hi (by omega);have hn:c∉j.bu.map (·.n):=by
   intro EB;apply hm;rw[<-r3];unfold gO;rw[aB];exact EB
  obtain⟨cm,w2,c6,c6',nH,GC,hg⟩:=Ws hh wf.b8 c hc hn 0;have HG:Hid (Goes (stA base x tb g (cn++ [(c,w.heap.size, [])]) (s.conn c)) w F w2):=by
   refine gj (s':=s.conn c) T hF ((r1.conn c).kept c w.heap.size hn (Af s c)) r2 ?_ ?_
   ·unfold gO at*;dsimp only;rw[aD,r3];rfl
   ·rw[(St.iZ c).2.2.2.2.1];exact hg
  have abt:(Instr.mapUpdate 81 (.map (some cm)) (.int .i64 c) (pt w.heap.size)).run prog (w.alloc (.cells #[.slice none 0 0, .bool false] 107))= .ok () w2:=GC;have HM:=hide hm;clear hh wf r1 r2 r3 hg GC hm hn hi hz;unfold pt at*;go_enter func47,ntmps47;go_wp2;go_ret;exact⟨_, [],_,rfl,List.mem_append_right _ (b9.2 rfl), .inr ⟨HM.out,rfl,rfl⟩,HG.out⟩
end
end Pj
namespace Mc
open bG
namespace St
variable{s:St}
def nr(s:St):List (Int×Bs):=s.aq.map (fun x:Cn=>(x.n,x.rest))
theorem Hi(c:Int)(t:Bs):(s.say c t).nr=s.nr:=rfl
theorem ML(c:Int):(s.fp c).nr=s.nr:=by
 unfold fp;split
 ·exact bn (fun x:Cn=>x.n==c) (fun x:Cn=>{x with gone:=true}) (fun x:Cn=>(x.n,x.rest)) (fun _=>rfl) s.aq
 ·rfl
theorem ny(i:Nat):(s.aZ i).nr=s.nr:=by
 unfold aZ;split
 ·rw[ML];rfl
 ·rfl
theorem Eh: ∀(f:Nat) (s:St) (id:Int),(stops f s id).nr=s.nr
 |0,_,_=>rfl
 |f+1,s,id=>by
  unfold stops;split
  ·rfl
  ·split
   ·rfl
   ·rw[Eh f,ny,Hi]
theorem vD(id:Int):(s.shut id).nr=s.nr:=Eh _ s id
theorem yR(id:Int)(f:Bool):(s.aX id f).nr=s.nr:=by unfold aX;split<;>rfl
theorem vL(id:Int)(c:Bool):(s.again id c).nr=s.nr:=by
 unfold again;split
 ·rfl
 ·split
  ·rfl
  ·split
   ·rw[vD,Hi]
   ·rw[yR];split<;>rfl
theorem Sz(c:Int)(ws:List Int)(k:Nat):(s.give c ws k).nr=s.nr:=by
 unfold give;split
 ·rfl
 ·split
  ·rfl
  ·split<;>rfl
theorem Am: ∀(f:Nat) (s:St),(bR f s).nr=s.nr
 |0,_=>rfl
 |f+1,s=>by
  unfold bR;split
  ·rfl
  ·split
   ·rfl
   ·rw[Am f,Sz]
theorem yJ:s.serve.nr=s.nr:=Am _ _
theorem Ll(c:Int)(m:Mg):(s.cf c m).nr=s.nr:=by
 unfold cf;split
 ·rfl
 ·split
  ·rfl
  ·rw[yR];rfl
theorem R5(c:Int):(s.conn c).nr=s.nr∨(s.conn c).nr=s.nr++ [(c, [])]:=by
 unfold conn;split
 ·exact .inl rfl
 ·right;unfold nr;rw[aD];rfl
theorem Dp: ∀(f:Nat) (s:St),(bV f s).nr=s.nr
 |0,_=>rfl
 |f+1,s=>by
  unfold bV;split
  ·rfl
  ·split
   ·rfl
   ·rw[Dp f,vL,ny,Hi]
theorem Kg(a:At):(s.bk a).nr=s.nr:=by
 unfold bk;split
 ·rfl
 ·split
  ·rw[yR];rfl
  ·rfl
theorem IB: ∀(l:List At) (s:St),(l.foldl bk s).nr=s.nr
 | [],_=>rfl
 |a::l,s=>by rw[List.foldl_cons,IB l,Kg]
theorem TU:s.tick.nr=s.nr:=by unfold tick;dsimp only;rw[yJ];unfold dE;rw[IB,Dp];rfl
theorem qg: ∀(f:Nat) (s:St) (i:Nat) (id c:Int),(bp f s i id c).nr=s.nr
 |0,_,_,_,_=>rfl
 |f+1,s,i,id,c=>by
  unfold bp;split
  ·rfl
  ·split
   ·rw[qg f,ny]
   ·rw[qg f]
theorem rb: ∀(f:Nat) (s:St) (c:Int),(aM f s c).nr=s.nr
 |0,_,_=>rfl
 |f+1,s,c=>by
  unfold aM;split
  ·rfl
  ·rw[rb f,vD,qg]
theorem q9: ∀(f:Nat) (s:St) (c:Int),(aP f s c).nr=s.nr
 |0,_,_=>rfl
 |f+1,s,c=>by
  unfold aP;split
  ·rfl
  ·split
   ·rfl
   ·rw[q9 f,vL,ny]
theorem MT(c:Int):(s.close c).nr=s.nr.filter fun y=>y.1 !=c:=by unfold close;dsimp only;rw[yJ,q9,rb];unfold nr idle;dsimp only;rw[List.filter_map];rfl
theorem nP(d:Int):s.cW d=match s.nr.find? (fun y=>y.1==d)with|some y=>y.2|none=> []:=by unfold cW nr;rw[List.find?_map];have e:((fun y:Int×Bs=>y.1==d)∘fun x:Cn=>(x.n,x.rest))=fun x=>x.n==d:=rfl;rw[e];cases s.aq.find? (fun x=>x.n==d)<;>rfl
theorem rest_of{s':St}(h:s'.nr=s.nr)(d:Int):s'.cW d=s.cW d:=by rw[nP,nP,h]
theorem zO{c:Int}(h:c∈s.aq.map (·.n)):s.conn c=s:=by unfold conn;rw[if_pos];obtain⟨x,hx,e⟩:=az.1 h;exact List.any_eq_true.2 ⟨x,hx,by simpa using e⟩
theorem Z0(s:St):s.nr.map (·.1)=s.aq.map (·.n):=by unfold nr;rw[aB];rfl
theorem DF{c:Int}(h:c∈s.aq.map (·.n))(m:Mg):(s.message c m).nr=s.nr:=by
 have e:=zO h;unfold message;rw[e];split
 ·exact Ll c m
 split
 ·split
  ·rfl
  ·split
   ·rw[vD];rfl
   ·rfl
 split
 ·split
  ·rfl
  ·dsimp only;split<;>rfl
 split
 ·exact(by unfold nr;rfl)
 split
 ·split
  ·rfl
  ·split
   ·rfl
   ·rw[vD,ny];rfl
 split
 ·split
  ·rfl
  ·rw[vL,ny]
 split
 ·dsimp only;rw[ML];exact bn (fun x:Cn=>x.n==c) (fun x:Cn=>{x with drains:=true}) (fun x:Cn=>(x.n,x.rest)) (fun _=>rfl) s.aq
 ·rfl
theorem Jg{c:Int}(h:c∈s.aq.map (·.n))(l:Bs):(s.line c l).nr=s.nr:=by
 unfold line;split
 ·rw[yJ,DF h]
 ·rfl
theorem JK(c d:Int):(s.conn c).cW d=s.cW d:=by
 rcases R5 (s:=s) c with h|h
 ·exact rest_of h d
 ·rw[nP,nP,h,List.find?_append];cases hf:s.nr.find? (fun y=>y.1==d)with
  |some y=>rfl
  |none=>
   by_cases e:c=d
   ·subst e;simp
   ·simp[e]
theorem Hm{c:Int}(r:Bs)(d:Int)(hc:c∈s.aq.map (·.n)):(s.bW c r).cW d=if d=c then r else s.cW d:=by
 unfold bW cW;dsimp only;have hs: ∀l:List Cn,c∈l.map (·.n)->(match (aK (fun x:Cn=>x.n==c) (fun x=>{x with rest:=r}) l).find? (fun x=>x.n==d)with|some x=>x.rest|none=> [])=if d=c then r else(match l.find? (fun x=>x.n==d)with|some x=>x.rest|none=> []):=by
  intro l
  induction l with
  |nil=>intro h;cases h
  |cons y l ih=>
   intro h;unfold aK;by_cases e:(y.n==c)=true
   ·rw[if_pos e];have e':y.n=c:=by simpa using e
    rw[List.find?_cons,List.find?_cons];by_cases ed:d=c
    ·subst ed;simp[e']
    ·have:(y.n==d)=false:=by
      rw[e'];exact beq_eq_false_iff_ne.2 (fun h=>ed h.symm)
     simp[this,ed]
   ·rw[if_neg e];have hm:c∈l.map (·.n):=by
     rw[List.map_cons,List.mem_cons]at h;rcases h with h|h
     ·exact absurd (by simpa using h.symm) e
     ·exact h
    have KA:=ih hm;rw[List.find?_cons,List.find?_cons];by_cases ed:(y.n==d)=true
    ·rw[ed];have:d≠c:=fun h=>e (by rw[<-h];exact ed);simp[this]
    ·have ed':(y.n==d)=false:=by simpa using ed
     rw[ed'];exact KA
 exact hs s.aq hc
