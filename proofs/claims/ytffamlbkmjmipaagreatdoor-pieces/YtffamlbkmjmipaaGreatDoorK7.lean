import Derived.Test.YtffamlbkmjmipaaGreatDoorK5
set_option maxHeartbeats 8000000
set_option maxRecDepth 100000
namespace Go.Proofs.YtffamlbkmjmipaaGreatDoor
open _root_.Go.Proofs.Tryz
namespace Kp
open Go.RowKit aD Mc Mr Lw bA
def OJ(i t:Nat):Bs:= [115,117,98,32]++a7 i++ [32]++ [UInt8.ofNat (97+t)]++ [32,112]++a7 i
def GU(i:Nat):Bs:= [97,99,99,32]++a7 i
def GV(i t:Nat):Bs:= [114,117,110,32]++a7 i++ [32,49,32]++ [UInt8.ofNat (97+t)]++ [32,112]++a7 i
def EI(i:Nat):Bs:= [100,111,110,101,32]++a7 i++ [32,49,32,118]++a7 i
def GW(i:Nat):Bs:= [118,97,108,32]++a7 i++ [32,118]++a7 i
def im(T E j:Nat):Ev:=
 if j<T*E then⟨.tell 1 (OJ (10*(j/E)+j %E) (j/E)), [(1,GU (10*(j/E)+j %E))]⟩
 else if j<T*E+2*(E*T)then
  let q:=(j-T*E)/2
  let k:=q/T
  let t:=q %T
  if(j-T*E) %2=0 then⟨.tell 2 dQ, [(2,GV (10*t+k) t)]⟩
  else if(k+t) %2=0 then⟨.tell 2 (EI (10*t+k)), [(1,GW (10*t+k))]⟩
  else⟨.none, []⟩
 else⟨.tell 2 dQ, []⟩
def yl(T E:Nat):Nat:=T*E+2*(E*T)+1
def qL:ic:=⟨9,0,5,8,0⟩
def UR(s:St):Bool:=s.wait.length==1 &&s.queued==0
theorem OA: ∀t:Fin 5,∀e:Fin 5,(G7 qL (yl (1+t.val) (1+e.val)) (im (1+t.val) (1+e.val)) &&fR (bX qL (yl (1+t.val) (1+e.val)) (im (1+t.val) (1+e.val)) ((1+t.val)*(1+e.val))) 0 ((1+t.val)*(1+e.val)) 0 0 &&UR (bX qL (yl (1+t.val) (1+e.val)) (im (1+t.val) (1+e.val)) (yl (1+t.val) (1+e.val))))=true:=by decide+kernel
theorem Ri{a b:Nat}(ha:a<5)(hb:b<5):Way qL (yl (1+a) (1+b)) (im (1+a) (1+b))∧fR (bX qL (yl (1+a) (1+b)) (im (1+a) (1+b)) ((1+a)*(1+b))) 0 ((1+a)*(1+b)) 0 0=true∧UR (bX qL (yl (1+a) (1+b)) (im (1+a) (1+b)) (yl (1+a) (1+b)))=true:=by have h:=OA ⟨a,ha⟩ ⟨b,hb⟩;simp only[a8]at h;have h1:(1+a)*(1+b)<=5*5:=Nat.mul_le_mul (by omega) (by omega);have h2:(1+b)*(1+a)<=5*5:=Nat.mul_le_mul (by omega) (by omega);exact⟨yr h.1.1 (by unfold yl;omega),h.1.2,h.2⟩
variable{w w1:World}{wp n T E t k:Nat}{x:List (Int×Bs)}
theorem yO.below{P:iC w.heap.size w}{s:St}{v:Value}{w2:World}(h:yO P wp n s v x w1)(hb:Below w1.heap.size w1 w2):yO P wp n s v x w2:=⟨h.1,h.2.below hb⟩
theorem ie.skip{P:iC w.heap.size w}{o:ic}{N:Nat}{ev:Nat->Ev}(W:Way o N ev){j:Nat}(hj:j<N)(ht:ev j=⟨.none,x⟩)(h:ie P wp n (bX o N ev j) w1):ie P wp (n+1) (bX o N ev (j+1)) w1:=⟨(W.C9 hj ht).good h.1,W.skip hj ht h.2⟩
theorem ym(ht:t<T)(hk:k<E):t*E+k<T*E:=by have h:(t+1)*E<=T*E:=Nat.mul_le_mul_right _ ht;rw[Nat.add_mul,Nat.one_mul]at h;omega
theorem sD(ht:t<T):(k*T+t)/T=k∧(k*T+t) %T=t:=by
 constructor
 ·rw[Nat.add_comm,Nat.add_mul_div_right _ _ (by omega),Nat.div_eq_of_lt ht,Nat.zero_add]
 ·rw[Nat.add_comm,Nat.add_mul_mod_self_right,Nat.mod_eq_of_lt ht]
theorem OB(ht:t<T)(hk:k<E):im T E (t*E+k)=⟨.tell 1 (OJ (10*t+k) t), [(1,GU (10*t+k))]⟩:=by obtain⟨hd,hm⟩:=sD (k:=t) hk;unfold im;rw[if_pos (ym ht hk),hd,hm]
theorem OC(ht:t<T)(hk:k<E):im T E (T*E+2*(k*T+t))=⟨.tell 2 dQ, [(2,GV (10*t+k) t)]⟩:=by have hl:=ym hk ht;obtain⟨hd,hm⟩:=sD (k:=k) ht;unfold im;rw[if_neg (by omega),if_pos (by omega),Nat.add_sub_cancel_left,Nat.mul_div_cancel_left _ (by omega)];simp only[hd,hm];rw[if_pos (by omega)]
theorem OD(ht:t<T)(hk:k<E)(he:(k+t) %2=0):im T E (T*E+2*(k*T+t)+1)=⟨.tell 2 (EI (10*t+k)), [(1,GW (10*t+k))]⟩:=by
 have hl:=ym hk ht;obtain⟨hd,hm⟩:=sD (k:=k) ht;unfold im;rw[if_neg (by omega),if_pos (by omega)];have h1:T*E+2*(k*T+t)+1-T*E=2*(k*T+t)+1:=by omega
 have h2:(2*(k*T+t)+1)/2=k*T+t:=by omega
 simp only[h1,h2,hd,hm];rw[if_neg (by omega),if_pos he]
theorem OE(ht:t<T)(hk:k<E)(he: ¬(k+t) %2=0):im T E (T*E+2*(k*T+t)+1)=⟨.none, []⟩:=by
 have hl:=ym hk ht;obtain⟨hd,hm⟩:=sD (k:=k) ht;unfold im;rw[if_neg (by omega),if_pos (by omega)];have h1:T*E+2*(k*T+t)+1-T*E=2*(k*T+t)+1:=by omega
 have h2:(2*(k*T+t)+1)/2=k*T+t:=by omega
 simp only[h1,h2,hd,hm];rw[if_neg (by omega),if_neg he]
theorem OG(T E:Nat):im T E (T*E+2*(E*T))=⟨.tell 2 dQ, []⟩:=by unfold im;rw[if_neg (by omega),if_neg (by omega)]
theorem OL(t k:Nat):(⟨#[115,117,98,32]⟩:ByteArray)++⟨(a7 (10*(t:Int)+(k:Int))).toArray⟩++⟨#[32]⟩++⟨#[97+UInt8.ofNat t]⟩++⟨#[32,112]⟩++⟨(a7 (10*(t:Int)+(k:Int))).toArray⟩=⟨(OJ (10*t+k) t).toArray⟩:=by unfold OJ;rw[show((10*t+k:Nat):Int)=10*(t:Int)+(k:Int)by omega,UInt8.ofNat_add,<-a6,<-a6,<-a6,<-a6,<-a6];rfl
theorem OH(t k:Nat):(⟨#[97,99,99,32]⟩:ByteArray)++⟨(a7 (10*(t:Int)+(k:Int))).toArray⟩=⟨(GU (10*t+k)).toArray⟩:=by unfold GU;rw[show((10*t+k:Nat):Int)=10*(t:Int)+(k:Int)by omega,<-a6]
theorem OI(t k:Nat):(⟨#[114,117,110,32]⟩:ByteArray)++⟨(a7 (10*(t:Int)+(k:Int))).toArray⟩++⟨#[32,49,32]⟩++⟨#[97+UInt8.ofNat t]⟩++⟨#[32,112]⟩++⟨(a7 (10*(t:Int)+(k:Int))).toArray⟩=⟨(GV (10*t+k) t).toArray⟩:=by unfold GV;rw[show((10*t+k:Nat):Int)=10*(t:Int)+(k:Int)by omega,UInt8.ofNat_add,<-a6,<-a6,<-a6,<-a6,<-a6];rfl
theorem Lz(t k:Nat):(⟨#[100,111,110,101,32]⟩:ByteArray)++⟨(a7 (10*(t:Int)+(k:Int))).toArray⟩++⟨#[32,49,32,118]⟩++⟨(a7 (10*(t:Int)+(k:Int))).toArray⟩=⟨(EI (10*t+k)).toArray⟩:=by unfold EI;rw[show((10*t+k:Nat):Int)=10*(t:Int)+(k:Int)by omega,<-a6,<-a6,<-a6]
theorem OM(t k:Nat):(⟨#[118,97,108,32]⟩:ByteArray)++⟨(a7 (10*(t:Int)+(k:Int))).toArray⟩++⟨#[32,118]⟩++⟨(a7 (10*(t:Int)+(k:Int))).toArray⟩=⟨(GW (10*t+k)).toArray⟩:=by unfold GW;rw[show((10*t+k:Nat):Int)=10*(t:Int)+(k:Int)by omega,<-a6,<-a6,<-a6]
theorem Lx(i:Nat):(GU i).length<=1048576:=by have:=cW (i:Int);unfold GU;rw[aC];simp only[List.length_cons,List.length_nil];omega
theorem LA(i t:Nat):(GV i t).length<=1048576:=by have:=cW (i:Int);unfold GV;simp only[aC,List.length_cons,List.length_nil];omega
theorem LB(i:Nat):(GW i).length<=1048576:=by have:=cW (i:Int);unfold GW;simp only[aC,List.length_cons,List.length_nil];omega
variable{l:Array Bool}{i:Nat}{md:Region.Mode}{ops:Array Oper}
def RG(l:Array Bool):Nat:=l.countP (!·)
theorem Jf(h:RG l=0)(i:Nat):l.getD i true=true:=by
 unfold RG at h;rw[Array.countP_eq_zero]at h;by_cases hi:i<l.size
 ·have:=h l[i] (Array.getElem_mem hi);rw[Array.getD_eq_getD_getElem?,Array.getElem?_eq_getElem hi];simpa using this
 ·rw[Array.getD_eq_getD_getElem?,Array.getElem?_eq_none (by omega)];rfl
theorem MU(h:l.getD i true=false):RG (l.setIfInBounds i true)+1=RG l:=by
 have hi:i<l.size:=by
  by_cases hi:i<l.size
  ·exact hi
  ·rw[Array.getD_eq_getD_getElem?,Array.getElem?_eq_none (by omega)]at h;cases h
 have hv:l[i]=false:=by rw[Array.getD_eq_getD_getElem?,Array.getElem?_eq_getElem hi]at h;exact h
 have hp:0<l.countP (!·):=by rw[Array.countP_pos_iff];exact⟨l[i],Array.getElem_mem hi,by rw[hv];rfl⟩
 unfold RG;rw[Array.setIfInBounds,dif_pos hi,Array.countP_set,hv];simp;omega
def VC(md:Region.Mode)(ops:Array Oper)(l:Array Bool)(i:Nat):Bool:= !l.getD i true &&((ops[i]?).map (·.after.all fun e=> !Region.binds md e||l.getD e.on false)).getD false
theorem N5(hi:i<ops.size)(h:VC md ops l i=true):i∈Region.ready md ops l:=by unfold Region.ready;exact aG.2 ⟨List.mem_range.2 hi,h⟩
theorem xQ(h:i∈Region.ready md ops l):i<ops.size∧VC md ops l i=true:=by unfold Region.ready at h;obtain⟨h1,h2⟩:=aG.1 h;exact⟨List.mem_range.1 h1,h2⟩
theorem NS{p:Prop}(h:i∈Region.ready md ops l)(h2:VC md ops l i=false):p:=by rw[(xQ h).2]at h2;cases h2
theorem wT{P:Program}{md:Region.Mode}{ops:Array Oper}{Q:Exit->Act->World->Prop}(I:Array Bool->Act->World->Prop)(hs: ∀i l a w,I l a w->i∈Region.ready md ops l-> ∀K:Act->World->Prop,(∀a' w',I (l.setIfInBounds i true) a' w'->K a' w')->wpOp P ops Q i K a w)(he: ∀l a w,I l a w->Region.ready md ops l= []->Q .normal a w): ∀(fuel:Nat) (l:Array Bool) (a:Act) (w:World),I l a w->RG l<=fuel->wpAny P md ops Q fuel l a w
 |0,l,a,w,hI,hf=>by
  have hr:Region.ready md ops l= []:=by unfold Region.ready;rw[List.filter_eq_nil_iff];intro i _;rw[Jf (by omega) i];simp
  exact⟨hr,he l a w hI hr⟩
 |fuel+1,l,a,w,hI,hf=>by refine⟨he l a w hI,fun i hi=>hs i l a w hI hi _ fun a' w' hI'=>wT I hs he fuel _ a' w' hI' ?_⟩;have h1:=(xQ hi).2;unfold VC at h1;simp only[a8,Bool.not_eq_true']at h1;have:=MU h1.1;omega
theorem OS{P:Program}{Q:Exit->Act->World->Prop}{o:Oper}{K:Act->World->Prop}{a:Act}{w:World}(ho:ops[i]?=some o)(hg:o.guard=none)(h:o.wp P a w K Q):wpOp P ops Q i K a w:=by unfold wpOp;rw[ho];dsimp only;rw[if_pos (by unfold Region.wanted;rw[hg])];exact .inl h
def opt(b:Bool)(B:Nat)(o:Obj):aD:=if b=true then blk B o else emp
theorem rj(B:Nat)(o:Obj):opt true B o=blk B o:=if_pos rfl
theorem wG(B:Nat)(o:Obj):opt false B o=emp:=if_neg Bool.false_ne_true
section
variable{w:World}{P:iC w.heap.size w}{wp n:Nat}{s s':St}{w1 w2:World}{x:List (Int×Bs)}{c:Int}{t:ByteArray}{z:Int}
def mid(P:iC w.heap.size w)(wp:Nat)(s s':St)(x:List (Int×Bs))(bs bi:Bool)(v:Value):aD:=if bi=true then keepA P wp s' else if bs=true then aa (dT v x) (keepA P wp s')else keepA P wp s
def oB(z:Int):Obj:= .cells #[.int .u8 z] 5 (0,0)
def oC(x:List (Int×Bs)):Obj:= .cells (x.map fun y=>Value.int .i64 y.1).toArray 3 (0,0)
def oT(x:List (Int×Bs)):Obj:= .cells (x.map fun y=>Value.string ⟨y.2.toArray⟩).toArray 9 (0,0)
def Wv(P:iC w.heap.size w)(wp:Nat)(s s':St)(x:List (Int×Bs))(z:Int)(bb bc bt bs bi:Bool)(ub uc ut v:Value)(w1:World):Prop:=
 ∃B C T:Nat,(bb=true->ub= .slice (some ⟨B,0,none⟩) 1 1)∧(bc=true->uc= .slice (some ⟨C,0,none⟩) x.length x.length)∧(bt=true->ut= .slice (some ⟨T,0,none⟩) x.length x.length)∧
  Goes (aa (opt bb B (oB z)) (aa (opt bc C (oC x)) (aa (opt bt T (oT x)) (mid P wp s s' x bs bi v)))) w (fun _=>False) w1
variable{bb bc bt bs bi:Bool}{ub uc ut v:Value}
theorem Wv.start(h:ie P wp n s w1):Wv P wp s s' x z false false false false false ub uc ut v w1:=
 ⟨0,0,0,nofun,nofun,nofun,h.2.eq (by rw[wG,wG,wG,iy,iy,iy];rfl)⟩
theorem Wv.below(h:Wv P wp s s' x z bb bc bt bs bi ub uc ut v w1)(hb:Below w1.heap.size w1 w2):Wv P wp s s' x z bb bc bt bs bi ub uc ut v w2:=by obtain⟨B,C,T,h1,h2,h3,h4⟩:=h;exact⟨B,C,T,h1,h2,h3,h4.below hb⟩
theorem Wv.byte(h:Wv P wp s s' x z false bc bt bs bi ub uc ut v w1):Wv P wp s s' x z true bc bt bs bi (.slice (some ⟨w1.heap.size,0,none⟩) 1 1) uc ut v (w1.alloc (oB z)):=by obtain⟨B,C,T,h1,h2,h3,h4⟩:=h;exact⟨w1.heap.size,C,T,fun _=>rfl,h2,h3,(h4.alloc (oB z)).eq (by rw[wG,iy,rj])⟩
theorem Wv.ak(h:Wv P wp s s' x z bb false bt bs bi ub uc ut v w1):Wv P wp s s' x z bb true bt bs bi ub (.slice (some ⟨w1.heap.size,0,none⟩) x.length x.length) ut v (w1.alloc (oC x)):=by obtain⟨B,C,T,h1,h2,h3,h4⟩:=h;exact⟨B,w1.heap.size,T,h1,fun _=>rfl,h3,(h4.alloc (oC x)).eq (by rw[wG,iy,rj];ac_rfl)⟩
theorem Wv.texts(h:Wv P wp s s' x z bb bc false bs bi ub uc ut v w1):Wv P wp s s' x z bb bc true bs bi ub uc (.slice (some ⟨w1.heap.size,0,none⟩) x.length x.length) v (w1.alloc (oT x)):=by obtain⟨B,C,T,h1,h2,h3,h4⟩:=h;exact⟨B,C,w1.heap.size,h1,h2,fun _=>rfl,(h4.alloc (oT x)).eq (by rw[wG,iy,rj];ac_rfl)⟩
theorem Wv.conv(h:Wv P wp s s' x z true bc bt bs bi ub uc ut v w1): ∃B,ub= .slice (some ⟨B,0,none⟩) 1 1∧(convert 35 9 (.slice (some ⟨B,0,none⟩) 1 1)).run prog w1= .ok (.string ⟨#[UInt8.ofNat z.toNat]⟩) w1:=by obtain⟨B,C,T,h1,h2,h3,h4⟩:=h;refine⟨B,h1 rfl,lM ?_⟩;rw[rj]at h4;obtain⟨F,hF⟩:=h4.facts;exact(b9 (bQ hF).1).trans rfl
theorem Wv.say(h:Wv P wp s s' x z bb bc bt false false ub uc ut v w1)(hg:Mc.Good n s)(st:Stp s ⟨.tell c t.data.toList,x⟩ s')(hn:n<=100000):Calls prog 23 #[.pointer (some ⟨wp,0,none⟩), .int .i64 c, .string t] w1 fun e w2=> ∃v,e= .returned v∧Wv P wp s s' x z bb bc bt true false ub uc ut v w2:=by
 obtain⟨B,C,T,k1,k2,k3,k4⟩:=h;have h1:=st.ok;unfold Ev.ok at h1;simp only[a8,decide_eq_true_eq]at h1;obtain⟨⟨⟨h4,h5⟩,h6⟩,h7⟩:=h1;have cY:t.size<=4096:=by simpa using h5
 have k5:=k4.eq (show _=aa (keepA P wp s) (aa (opt bb B (oB z)) (aa (opt bc C (oC x)) (opt bt T (oT x))))by show aa _ (aa _ (aa _ (keepA P wp s)))=_;ac_rfl);refine(nO P wp c ⟨h6,h7⟩ t s hg (by omega) (by omega) _ (af _) (ar _ _) jy k5).mono ?_;rintro en w2⟨v,rfl,eO⟩;have h9:(Kp.tell s c t.data.toList).out=x:=st.out;have RI:(Kp.tell s c t.data.toList).told=s':=st.told;rw[h9,RI]at eO;exact⟨v,rfl,B,C,T,k1,k2,k3,eO.eq (show _=aa (opt bb B (oB z)) (aa (opt bc C (oC x)) (aa (opt bt T (oT x)) (aa (dT v x) (keepA P wp s'))))by ac_rfl)⟩
theorem Wv.is(h:Wv P wp s s' x z bb true true true false ub uc ut v w1)(ht: ∀y∈x,y.2.length<=1048576)(hm:x.length<=1000):Calls prog 22 #[v,uc,ut] w1 fun e w2=>e= .returned (.bool true)∧Wv P wp s s' x z bb true true true true ub uc ut v w2:=by obtain⟨B,C,T,k1,k2,k3,k4⟩:=h;rw[rj,rj]at k4;rw[k2 rfl,k3 rfl];have k5:=k4.eq (show _=aa (dT v x) (aa (opt bb B (oB z)) (aa (blk C (oC x)) (aa (blk T (oT x)) (keepA P wp s'))))by show aa _ (aa _ (aa _ (aa (dT v x) (keepA P wp s'))))=_;ac_rfl);obtain⟨F1,bU⟩:=(k4.eq (show _=aa (blk C (oC x)) (aa (opt bb B (oB z)) (aa (blk T (oT x)) (mid P wp s s' x true false v)))by ac_rfl)).facts;obtain⟨F2,gl⟩:=(k4.eq (show _=aa (blk T (oT x)) (aa (opt bb B (oB z)) (aa (blk C (oC x)) (mid P wp s s' x true false v)))by ac_rfl)).facts;refine(qo P _ (af _) (ar _ _) jy k5 (ar _ _) ht rfl hm (bQ bU).1 (bQ gl).1).mono ?_;rintro en w2⟨rfl,eO⟩;exact⟨rfl,B,C,T,k1,fun _=>rfl,fun _=>rfl,by rw[rj,rj];exact eO⟩
theorem Wv.fin(h:Wv P wp s s' x z bb bc bt bs true ub uc ut v w1)(hg:Mc.Good n s'):ie P wp n s' w1:=by obtain⟨B,C,T,k1,k2,k3,k4⟩:=h;refine⟨hg,(k4.eq (show _=aa (keepA P wp s') (aa (opt bb B (oB z)) (aa (opt bc C (oC x)) (opt bt T (oT x))))by show aa _ (aa _ (aa _ (keepA P wp s')))=_;ac_rfl)).drop⟩
end
noncomputable def nK (id:Nat):Code->Option (Array Oper)
 | .region i o _=>if i=id then some o else none
 | .seq x y=>match nK id x with|some o=>some o|none=>nK id y
 | .cond _ x y=>match nK id x with|some o=>some o|none=>nK id y
 | .block _ x=>nK id x
 | .loop x=>nK id x
 |_=>none
theorem KX{P:Program}{Q:Exit->Act->World->Prop}{id:Nat}{ops UI:Array Oper}{d:Bool}{a:Act}{w:World}(h:ops=UI)(hw:(Code.region id UI d).wp P Q a w):(Code.region id ops d).wp P Q a w:=h▸hw
