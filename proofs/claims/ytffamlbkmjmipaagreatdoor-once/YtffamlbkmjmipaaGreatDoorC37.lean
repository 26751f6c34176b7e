import Derived.Test.YtffamlbkmjmipaaGreatDoorC33
set_option maxHeartbeats 8000000
set_option maxRecDepth 100000
namespace Go.Proofs.YtffamlbkmjmipaaGreatDoor
open _root_.Go.Proofs.Tryz
namespace bG
open Go.RowKit
attribute [local go_sem] aG.ae aG.ag
theorem Lu(q:Nat)(k:List UInt8)(r:List (List UInt8))(ao:Option Addr)(a cap:Nat)(w:World)(gL:w.heap[q]?=some (.cells (cs0 k) 149 (0,0)))(bQ:0<r.length->ao=some ⟨a,1,none⟩∧a<w.heap.size∧a≠q)(kS: ∀x∈r,x.length<=4194304)(iA:r.length<=4194304)(mC: ∀i (h:i<r.length),w.cell? ⟨a,1+i,none⟩=some (.string ⟨(r[i]'h).toArray⟩))(hv:(k== [112,117,108,108])=true):Calls prog 134 #[.pointer (some ⟨q,0,none⟩), .slice ao r.length cap] w (qX q k r w):=by
 have s5:q<w.heap.size:=(cC.1 gL).1;have sW:Hid (∀k w1,_):=fun k w1=>kz q k w1;have HK:Hid (∀W,Below w.heap.size w W->W.cell? ⟨q,0,none⟩=some (.string ⟨k.toArray⟩)):=fun W h=>by rw[h.cell (p:=⟨q,0,none⟩) s5];simp only[World.cell?,gL];rfl
 have HW:Hid (_∧_):=H9 r;have hk:k= [112,117,108,108]:=by simpa using hv
 have HF:Hid (∀W,Below w.heap.size w W->Calls prog 176 #[.slice ao r.length cap, .slice none 0 0] W fun e w'=>e= .returned (.bool (a6 (k::r)).2)∧Hid (Only (fun b=>b=q) w w'∧((a6 (k::r)).2=true->w'.heap[q]?=some (.cells (a6 (k::r)).1.cs 149 (0,0))))):=fun W h=>by
  refine(A6 W r ao a cap (cs0 k) ((h.block q s5).trans gL) rfl (fun h0=> ?_) kS iA (fun i hi=> ?_)).mono ?_
  ·obtain⟨h1,h2,h3⟩:=bQ h0;exact⟨h1,bD h2 h.size,h3⟩
  ·rw[h.cell (p:=⟨a,1+i,none⟩) (bQ (by omega)).2.1];exact mC i hi
  ·rintro e w'⟨rfl,ho,hp⟩;rw[hk]at hp⊢;exact⟨by rw[HW.out.1],(fS h).trans ho (fun _ _ h=>h),fun h=>by rw[HW.out.1]at h;rw[<-HW.out.2 h];exact hp h⟩
 clear gL bQ kS mC hk HW;generalize nJ:r.length=rl at*;clear nJ;have M1:True:=trivial;go_enter func134,ntmps134;go_wp2_with fail;go_region_held3 (fun _=>True) (trivial)
  (first
   |(go_at_call 175;first
     |(clear M1;go_must(refine(sW.out _ _).mono ?_;rintro e w1⟨N1,rfl,EE,Ag,bT,sX⟩))
     |(go_must(refine(sW.out _ _).mono ?_;rintro e w2⟨N2,rfl,EF,EG,cZ,zm⟩))))
 all_goals
  have fN:=cL bT;have HB:Below w.heap.size w w2:=fN.trans ((by first|exact cZ|exact cL cZ:Below w1.heap.size w1 w2).mono fN.size);have c0:=HK.out w2 HB;have Eu:Hid (Calls _ _ _ _ _):=HF.out w2 HB;go_wp2_with (first
   |(go_at_call 176;go_must(refine Eu.out.mono ?_;rintro e w3⟨rfl,HP⟩)))
  go_ret;exact⟨rfl,HP.out⟩
theorem Lr(q:Nat)(k:List UInt8)(r:List (List UInt8))(ao:Option Addr)(a cap:Nat)(w:World)(gL:w.heap[q]?=some (.cells (cs0 k) 149 (0,0)))(bQ:0<r.length->ao=some ⟨a,1,none⟩∧a<w.heap.size∧a≠q)(kS: ∀x∈r,x.length<=4194304)(iA:r.length<=4194304)(mC: ∀i (h:i<r.length),w.cell? ⟨a,1+i,none⟩=some (.string ⟨(r[i]'h).toArray⟩))(h0:(k== [112,117,108,108])=false)(hv:(k== [98,101,97,116])=true):Calls prog 134 #[.pointer (some ⟨q,0,none⟩), .slice ao r.length cap] w (qX q k r w):=by
 have s5:q<w.heap.size:=(cC.1 gL).1;have sW:Hid (∀k w1,_):=fun k w1=>kz q k w1;have HK:Hid (∀W,Below w.heap.size w W->W.cell? ⟨q,0,none⟩=some (.string ⟨k.toArray⟩)):=fun W h=>by rw[h.cell (p:=⟨q,0,none⟩) s5];simp only[World.cell?,gL];rfl
 have HW:Hid (_∧_):=H6 r;have hk:k= [98,101,97,116]:=by simpa using hv
 have HF:Hid (∀W,Below w.heap.size w W->Calls prog 176 #[.slice ao r.length cap, .slice none 0 0] W fun e w'=>e= .returned (.bool (a6 (k::r)).2)∧Hid (Only (fun b=>b=q) w w'∧((a6 (k::r)).2=true->w'.heap[q]?=some (.cells (a6 (k::r)).1.cs 149 (0,0))))):=fun W h=>by
  refine(A6 W r ao a cap (cs0 k) ((h.block q s5).trans gL) rfl (fun h0=> ?_) kS iA (fun i hi=> ?_)).mono ?_
  ·obtain⟨h1,h2,h3⟩:=bQ h0;exact⟨h1,bD h2 h.size,h3⟩
  ·rw[h.cell (p:=⟨a,1+i,none⟩) (bQ (by omega)).2.1];exact mC i hi
  ·rintro e w'⟨rfl,ho,hp⟩;rw[hk]at hp⊢;exact⟨by rw[HW.out.1],(fS h).trans ho (fun _ _ h=>h),fun h=>by rw[HW.out.1]at h;rw[<-HW.out.2 h];exact hp h⟩
 clear gL bQ kS mC hk HW;generalize nJ:r.length=rl at*;clear nJ;have M1:True:=trivial;go_enter func134,ntmps134;go_wp2_with fail;go_region_held3 (fun _=>True) (trivial)
  (first
   |(go_at_call 175;first
     |(clear M1;go_must(refine(sW.out _ _).mono ?_;rintro e w1⟨N1,rfl,EE,Ag,bT,sX⟩))
     |(go_must(refine(sW.out _ _).mono ?_;rintro e w2⟨N2,rfl,EF,EG,cZ,zm⟩))))
 all_goals
  have fN:=cL bT;have HB:Below w.heap.size w w2:=fN.trans ((by first|exact cZ|exact cL cZ:Below w1.heap.size w1 w2).mono fN.size);have c0:=HK.out w2 HB;have Eu:Hid (Calls _ _ _ _ _):=HF.out w2 HB;go_wp2_with (first
   |(go_at_call 176;go_must(refine Eu.out.mono ?_;rintro e w3⟨rfl,HP⟩)))
  go_ret;exact⟨rfl,HP.out⟩
theorem Ht(q:Nat)(k:List UInt8)(r:List (List UInt8))(ao:Option Addr)(a cap:Nat)(w:World)(gL:w.heap[q]?=some (.cells (cs0 k) 149 (0,0)))(bQ:0<r.length->ao=some ⟨a,1,none⟩∧a<w.heap.size∧a≠q)(kS: ∀x∈r,x.length<=4194304)(iA:r.length<=4194304)(mC: ∀i (h:i<r.length),w.cell? ⟨a,1+i,none⟩=some (.string ⟨(r[i]'h).toArray⟩))(h0:(k== [112,117,108,108])=false)(h1:(k== [98,101,97,116])=false)(hv:(k== [100,114,97,105,110])=true):Calls prog 134 #[.pointer (some ⟨q,0,none⟩), .slice ao r.length cap] w (qX q k r w):=by
 have s5:q<w.heap.size:=(cC.1 gL).1;have sW:Hid (∀k w1,_):=fun k w1=>kz q k w1;have HK:Hid (∀W,Below w.heap.size w W->W.cell? ⟨q,0,none⟩=some (.string ⟨k.toArray⟩)):=fun W h=>by rw[h.cell (p:=⟨q,0,none⟩) s5];simp only[World.cell?,gL];rfl
 have HW:Hid (_∧_):=Ep r;have hk:k= [100,114,97,105,110]:=by simpa using hv
 have HF:Hid (∀W,Below w.heap.size w W->Calls prog 176 #[.slice ao r.length cap, .slice none 0 0] W fun e w'=>e= .returned (.bool (a6 (k::r)).2)∧Hid (Only (fun b=>b=q) w w'∧((a6 (k::r)).2=true->w'.heap[q]?=some (.cells (a6 (k::r)).1.cs 149 (0,0))))):=fun W h=>by
  refine(A6 W r ao a cap (cs0 k) ((h.block q s5).trans gL) rfl (fun h0=> ?_) kS iA (fun i hi=> ?_)).mono ?_
  ·obtain⟨h1,h2,h3⟩:=bQ h0;exact⟨h1,bD h2 h.size,h3⟩
  ·rw[h.cell (p:=⟨a,1+i,none⟩) (bQ (by omega)).2.1];exact mC i hi
  ·rintro e w'⟨rfl,ho,hp⟩;rw[hk]at hp⊢;exact⟨by rw[HW.out.1],(fS h).trans ho (fun _ _ h=>h),fun h=>by rw[HW.out.1]at h;rw[<-HW.out.2 h];exact hp h⟩
 clear gL bQ kS mC hk HW;generalize nJ:r.length=rl at*;clear nJ;have M1:True:=trivial;go_enter func134,ntmps134;go_wp2_with fail;go_region_held3 (fun _=>True) (trivial)
  (first
   |(go_at_call 175;first
     |(clear M1;go_must(refine(sW.out _ _).mono ?_;rintro e w1⟨N1,rfl,EE,Ag,bT,sX⟩))
     |(go_must(refine(sW.out _ _).mono ?_;rintro e w2⟨N2,rfl,EF,EG,cZ,zm⟩))))
 all_goals
  have fN:=cL bT;have HB:Below w.heap.size w w2:=fN.trans ((by first|exact cZ|exact cL cZ:Below w1.heap.size w1 w2).mono fN.size);have c0:=HK.out w2 HB;have Eu:Hid (Calls _ _ _ _ _):=HF.out w2 HB;go_wp2_with (first
   |(go_at_call 176;go_must(refine Eu.out.mono ?_;rintro e w3⟨rfl,HP⟩)))
  go_ret;exact⟨rfl,HP.out⟩
theorem Hu(q:Nat)(k:List UInt8)(r:List (List UInt8))(ao:Option Addr)(cap:Nat)(w:World)(gL:w.heap[q]?=some (.cells (cs0 k) 149 (0,0)))(h0:(k== [112,117,108,108])=false)(h1:(k== [98,101,97,116])=false)(h2:(k== [100,114,97,105,110])=false)(h3:(k== [99,97,110])=false)(h4:(k== [102,97,105,108])=false)(h5:(k== [115,117,98])=false)(h6:(k== [100,111,110,101])=false):Calls prog 134 #[.pointer (some ⟨q,0,none⟩), .slice ao r.length cap] w (qX q k r w):=by
 have s5:q<w.heap.size:=(cC.1 gL).1;have sW:Hid (∀k w1,_):=fun k w1=>kz q k w1;have HK:Hid (∀W,Below w.heap.size w W->W.cell? ⟨q,0,none⟩=some (.string ⟨k.toArray⟩)):=fun W h=>by rw[h.cell (p:=⟨q,0,none⟩) s5];simp only[World.cell?,gL];rfl
 have HO:=Er h0 h1 h2 h3 h4 h5 h6 r;have HO':Hid ((a6 (k::r)).2=false):=HO;generalize nJ:r.length=rl at*;clear nJ HO;have M1:True:=trivial;go_enter func134,ntmps134;go_wp2_with fail;go_region_held3 (fun _=>True) (trivial)
  (first
   |(go_at_call 175;first
     |(clear M1;go_must(refine(sW.out _ _).mono ?_;rintro e w1⟨N1,rfl,EE,Ag,bT,sX⟩))
     |(go_must(refine(sW.out _ _).mono ?_;rintro e w2⟨N2,rfl,EF,EG,cZ,zm⟩))))
 all_goals
  have fN:=cL bT;have j9:Below w1.heap.size w1 w2:=by first|exact cZ|exact cL cZ
  have HB:Below w.heap.size w w2:=fN.trans (j9.mono fN.size);have c0:=HK.out w2 HB;clear sW HK bT cZ fN j9 sX zm EE Ag EF EG;go_wp2;go_ret;exact⟨cH HO'.out.symm,fS HB,fun h=>by rw[HO'.out]at h;cases h⟩
theorem QX{base:Nat}{cg:World}(L:iP base cg)(q:Nat)(k:List UInt8)(r:List (List UInt8))(ao:Option Addr)(a cap:Nat)(w:World)(hb:Below base cg w)(hB:base<=w.heap.size)(Aa:base<=q)(gL:w.heap[q]?=some (.cells (cs0 k) 149 (0,0)))(bQ:0<r.length->ao=some ⟨a,1,none⟩∧a<w.heap.size∧a≠q)(kS: ∀x∈r,x.length<=4194304)(iA:r.length<=4194304)(mC: ∀i (h:i<r.length),w.cell? ⟨a,1+i,none⟩=some (.string ⟨(r[i]'h).toArray⟩))(h0:(k== [112,117,108,108])=false)(h1:(k== [98,101,97,116])=false)(h2:(k== [100,114,97,105,110])=false)(h3:(k== [99,97,110])=false)(h4:(k== [102,97,105,108])=false)(hv:(k== [115,117,98])=true):Calls prog 134 #[.pointer (some ⟨q,0,none⟩), .slice ao r.length cap] w (qX q k r w):=by
 have s5:q<w.heap.size:=(cC.1 gL).1;have sW:Hid (∀k w1,_):=fun k w1=>kz q k w1;have HK:Hid (∀W,Below w.heap.size w W->W.cell? ⟨q,0,none⟩=some (.string ⟨k.toArray⟩)):=fun W h=>by rw[h.cell (p:=⟨q,0,none⟩) s5];simp only[World.cell?,gL];rfl
 have hk:k= [115,117,98]:=by simpa using hv
 have HF:Hid (∀W N1 B1 B2 B3 B4,Below w.heap.size w W->w.heap.size<=N1∧N1<W.heap.size->w.heap.size<=B1∧B1<W.heap.size->w.heap.size<=B2∧B2<W.heap.size->w.heap.size<=B3∧B3<W.heap.size->w.heap.size<=B4∧B4<W.heap.size->W.cell? ⟨N1,0,none⟩=some (.pointer (some ⟨q,1,none⟩))->W.cell? ⟨B1,0,none⟩=some (.pointer (some ⟨q,3,none⟩))->W.cell? ⟨B2,0,none⟩=some (.func (.func 178) #[] #[])->W.cell? ⟨B3,0,none⟩=some (.pointer (some ⟨q,4,none⟩))->W.cell? ⟨B4,0,none⟩=some (.func (.func 179) #[] #[])-> ∀nq,Calls prog 176 #[.slice ao r.length cap, .slice (some ⟨W.heap.size,0,none⟩) 3 3] ((W.drewN nq).alloc (.cells #[.func (.func 216) #[] #[.pointer (some ⟨N1,0,none⟩)], .func (.func 219) #[] #[.pointer (some ⟨B1,0,none⟩), .pointer (some ⟨B2,0,none⟩)], .func (.func 219) #[] #[.pointer (some ⟨B3,0,none⟩), .pointer (some ⟨B4,0,none⟩)]] 234)) fun e w'=>e= .returned (.bool (a6 (k::r)).2)∧Hid (Only (fun b=>b=q) w w'∧((a6 (k::r)).2=true->w'.heap[q]?=some (.cells (a6 (k::r)).1.cs 149 (0,0))))):=fun W0 N1 B1 B2 B3 B4 h0 pG Wx Wy lB3 lB4 sX YJ YK cB3 cB4 nq=>by
  obtain⟨W,eW⟩: ∃W,W0.drewN nq=W:=⟨_,rfl⟩;have es:W.heap.size=W0.heap.size:=by rw[<-eW];rfl
  have ec: ∀p,W.cell? p=W0.cell? p:=fun p=>by rw[<-eW];rfl
  have h:Below w.heap.size w W:=by rw[<-eW];exact⟨h0.os,h0.tape,h0.output,h0.size,h0.block⟩
  rw[eW,<-es];rw[<-es]at pG Wx Wy lB3 lB4;rw[<-ec]at sX YJ YK cB3 cB4;have HW:=LJ N1 B1 B2 B3 B4 r;have rH:Below W.heap.size W (W.alloc (.cells #[.func (.func 216) #[] #[.pointer (some ⟨N1,0,none⟩)], .func (.func 219) #[] #[.pointer (some ⟨B1,0,none⟩), .pointer (some ⟨B2,0,none⟩)], .func (.func 219) #[] #[.pointer (some ⟨B3,0,none⟩), .pointer (some ⟨B4,0,none⟩)]] 234)):=(au _ _).alloc (af _) _;have Nt:base<=W.heap.size:=ar hB h.size;have LQ:Below base cg (W.alloc (.cells #[.func (.func 216) #[] #[.pointer (some ⟨N1,0,none⟩)], .func (.func 219) #[] #[.pointer (some ⟨B1,0,none⟩), .pointer (some ⟨B2,0,none⟩)], .func (.func 219) #[] #[.pointer (some ⟨B3,0,none⟩), .pointer (some ⟨B4,0,none⟩)]] 234)):=(hb.trans (h.mono hB)).alloc Nt _;have LO:base<=(W.alloc (.cells #[.func (.func 216) #[] #[.pointer (some ⟨N1,0,none⟩)], .func (.func 219) #[] #[.pointer (some ⟨B1,0,none⟩), .pointer (some ⟨B2,0,none⟩)], .func (.func 219) #[] #[.pointer (some ⟨B3,0,none⟩), .pointer (some ⟨B4,0,none⟩)]] 234)).heap.size:=ar Nt rH.size;have aN: ∀n,n<W.heap.size->n<(W.alloc (.cells #[.func (.func 216) #[] #[.pointer (some ⟨N1,0,none⟩)], .func (.func 219) #[] #[.pointer (some ⟨B1,0,none⟩), .pointer (some ⟨B2,0,none⟩)], .func (.func 219) #[] #[.pointer (some ⟨B3,0,none⟩), .pointer (some ⟨B4,0,none⟩)]] 234)).heap.size:=fun n hn=>bD hn rH.size;refine(A5 W r [cG N1 1,eV B1 B2 3 tV,eV B3 B4 4 mh] ao a cap (cs0 k) ((h.block q s5).trans gL) rfl (fun f hf=> ?_) (fun h0=> ?_) kS iA (by simp) (fun i hi=> ?_)).mono ?_
  ·simp only[List.mem_cons,List.not_mem_nil,or_false]at hf;rcases hf with rfl|rfl|rfl
   ·exact jb L LQ LO Aa (by omega) (aN _ pG.2) (by omega) ((rH.cell (p:=⟨N1,0,none⟩) pG.2).trans sX)
   ·exact qV (Dh L) LQ LO Aa (by omega) (aN _ Wx.2) (by omega) (aN _ Wy.2) (by omega) ((rH.cell (p:=⟨B1,0,none⟩) Wx.2).trans YJ) ((rH.cell (p:=⟨B2,0,none⟩) Wy.2).trans YK)
   ·exact qV (rM L) LQ LO Aa (by omega) (aN _ lB3.2) (by omega) (aN _ lB4.2) (by omega) ((rH.cell (p:=⟨B3,0,none⟩) lB3.2).trans cB3) ((rH.cell (p:=⟨B4,0,none⟩) lB4.2).trans cB4)
  ·obtain⟨h1,h2,h3⟩:=bQ h0;exact⟨h1,bD h2 h.size,h3⟩
  ·rw[h.cell (p:=⟨a,1+i,none⟩) (bQ (by omega)).2.1];exact mC i hi
  ·rintro e w'⟨rfl,ho,hp⟩;rw[hk]at hp⊢;exact⟨by rw[HW.1],(fS h).trans ho (fun _ _ h=>h),fun h=>by rw[HW.1]at h;rw[<-HW.2 h];exact hp h⟩
 clear gL bQ kS mC L hk hb;generalize nJ:r.length=rl at*;clear nJ;have Ma:Hid (∀k g w1,_):=fun k g w1=>U0 q k g w1;have M1:True:=trivial;go_enter func134,ntmps134;go_wp2_with fail;go_region_held3 (fun _=>True) (trivial)
  (first
   |(go_at_call 175;first
     |(clear M1;go_must(refine(sW.out _ _).mono ?_;rintro e w1⟨N1,rfl,EE,Ag,bT,sX⟩))
     |(go_must(refine(sW.out _ _).mono ?_;rintro e w2⟨N2,rfl,EF,EG,cZ,zm⟩))))
 all_goals
  have fN:=cL bT;have j9:Below w1.heap.size w1 w2:=by first|exact cZ|exact cL cZ
  have HB:Below w.heap.size w w2:=fN.trans (j9.mono fN.size);have c0:=HK.out w2 HB;have pG:w.heap.size<=N1∧N1<w2.heap.size:=⟨EE,bD Ag j9.size⟩;have vT:w2.cell? ⟨N1,0,none⟩=some (.pointer (some ⟨q,1,none⟩)):=by rw[j9.cell (p:=⟨N1,0,none⟩) Ag];exact sX
  have Bn:w.heap.size<=N2∧N2<w2.heap.size:=⟨ar fN.size EF,EG⟩;have Eu:Hid (∀w3 w4 B1 B2 B3 B4,Below w2.heap.size w2 w3->Below w3.heap.size w3 w4->w2.heap.size<=B1∧B1<w3.heap.size->w2.heap.size<=B2∧B2<w3.heap.size->w3.heap.size<=B3∧B3<w4.heap.size->w3.heap.size<=B4∧B4<w4.heap.size->w3.cell? ⟨B1,0,none⟩=some (.pointer (some ⟨q,3,none⟩))->w3.cell? ⟨B2,0,none⟩=some (.func (.func 178) #[] #[])->w4.cell? ⟨B3,0,none⟩=some (.pointer (some ⟨q,4,none⟩))->w4.cell? ⟨B4,0,none⟩=some (.func (.func 179) #[] #[])-> ∀nq,Calls _ _ _ _ _):=fun w3 w4 B1 B2 B3 B4 h3 h4 l1 l2 l3 l4 c1 c2 c3 c4 nq=>HF.out w4 N1 B1 B2 B3 B4 (HB.trans ((h3.trans (h4.mono h3.size)).mono HB.size)) ⟨pG.1,bD pG.2 (ar h3.size h4.size)⟩ ⟨ar HB.size l1.1,bD l1.2 h4.size⟩ ⟨ar HB.size l2.1,bD l2.2 h4.size⟩ ⟨ar HB.size (ar h3.size l3.1),l3.2⟩ ⟨ar HB.size (ar h3.size l4.1),l4.2⟩ (by rw[h4.cell (p:=⟨N1,0,none⟩) (bD pG.2 h3.size),h3.cell (p:=⟨N1,0,none⟩) pG.2];exact vT) (by rw[h4.cell (p:=⟨B1,0,none⟩) l1.2];exact c1) (by rw[h4.cell (p:=⟨B2,0,none⟩) l2.2];exact c2) c3 c4 nq
  clear HF sW HK bT cZ fN j9 sX vT zm HB EE Ag EF EG pG Bn;have M2:True:=trivial;go_wp2_with fail;go_region_held3 (fun _=>True) (trivial)
   (first
    |(go_at_call 177;first
      |(clear M2;go_must(refine(Ma.out _ _ _).mono ?_;rintro e w3⟨B1,B2,rfl,b1,b2,b3,b4,uX,d1,d2⟩))
      |(go_must(refine(Ma.out _ _ _).mono ?_;rintro e w4⟨B3,B4,rfl,b5,b6,b7,b8,yZ,d3,d4⟩;have HF3:Hid (∀nq,Calls _ _ _ _ _):=Eu.out w3 w4 B1 B2 B3 B4 (cL uX) (by first|exact yZ|exact cL yZ) ⟨b1,b2⟩ ⟨b3,b4⟩ ⟨b5,b6⟩ ⟨b7,b8⟩ d1 d2 d3 d4)))
    |(go_at_call 176;go_must(refine(HF3.out 0).mono ?_;rintro e w5⟨rfl,HP⟩)))
  all_goals go_wp2;go_ret;exact⟨rfl,HP.out⟩
end bG
namespace aG
open Go.RowKit
attribute [local go_sem] ae ag
variable{h:Int}{k:Nat}
def dv(c:UInt8):Int:=if 48<=c.toNat∧c.toNat<=57 then c.toNat-48 else if 97<=c.toNat∧c.toNat<=102 then c.toNat-87 else-1
theorem YO: ∀c:UInt8,Lib.indexByte [48,49,50,51,52,53,54,55,56,57,97,98,99,100,101,102] c=dv c:=by
 have h: ∀n:Fin 256,Lib.indexByte [48,49,50,51,52,53,54,55,56,57,97,98,99,100,101,102] (UInt8.ofNat n.val)=dv (UInt8.ofNat n.val):=by decide+kernel
 intro c;have:=h ⟨c.toNat,c.toNat_lt⟩;simpa using this
theorem Ip(c:UInt8): -1<=dv c∧dv c<=15:=by
 unfold dv;split
 ·omega
 ·split<;>omega
theorem GJ(c:UInt8)(w:World):Calls prog 173 #[.string ⟨#[48,49,50,51,52,53,54,55,56,57,97,98,99,100,101,102]⟩, .int .u8 (c.toNat:Int)] w fun e w'=>e= .returned (.int .i64 (dv c))∧w'=w:=by
 refine(Any.strings_IndexByte indexByte ⟨#[48,49,50,51,52,53,54,55,56,57,97,98,99,100,101,102]⟩ (c.toNat:Int) w).mono ?_;rintro e w'⟨rfl,rfl⟩;refine⟨?_,rfl⟩;have e1:((c.toNat:Int).toNat).toUInt8=c:=by simp
 rw[e1];exact congrArg (fun x=>Ending.returned (.int .i64 x)) (YO c)
def part(l:List UInt8)(j:Nat):Int:=16*dv (l[2*j]?.getD 0)+dv (l[2*j+1]?.getD 0)
def partAt(l:List UInt8)(k j:Nat):Int:=if j<k then part l j else 0
def fM(l:List UInt8):Prop:= ∀i,i<8->0<=dv (l[i]?.getD 0)
def uf(l:List UInt8)(w:World)(e:Ending)(w':World):Prop:=
 ((fM l∧e= .returned (.tuple #[.agg #[.int .u8 (part l 0), .int .u8 (part l 1), .int .u8 (part l 2), .int .u8 (part l 3)], .bool true]))∨
  (¬fM l∧e= .returned (.tuple #[.agg #[.int .u8 0, .int .u8 0, .int .u8 0, .int .u8 0], .bool false])))∧Below w.heap.size w w'
theorem abf: ∀h l:Fin 16,bits .or .i64 ((h.val:Int)*16) (l.val:Int) %256=16*(h.val:Int)+(l.val:Int):=by decide+kernel
theorem vB{l:Int}(hh:0<=h∧h<=15)(hl:0<=l∧l<=15):bits .or .i64 (h*16) l %256=16*h+l:=by have:=abf ⟨h.toNat,by omega⟩ ⟨l.toNat,by omega⟩;simp only[Int.toNat_of_nonneg hh.1,Int.toNat_of_nonneg hl.1]at this;exact this
theorem rW{l:List UInt8}{v:Int}(hh:dv (l[2*k]?.getD 0)=h)(hl:dv (l[2*k+1]?.getD 0)=v):16*h+v=partAt l (k+1) k:=by rw[partAt,if_pos (Nat.lt_succ_self k),part,hh,hl]
theorem eZ(l:List UInt8){j:Nat}(h:j≠k):partAt l k j=partAt l (k+1) j:=by
 unfold partAt;by_cases h':j<k
 ·rw[if_pos h',if_pos (by omega)]
 ·rw[if_neg h',if_neg (by omega)]
theorem byte_at(s:ByteArray)(i:Nat)(h:i<s.size):s.data.toList[i]?.getD 0=s[i]:=by rw[aY (by simpa using h)];rfl
theorem D1(s:ByteArray)(w:World)(hs:s.size=8):Calls prog 132 #[.string s] w (uf s.data.toList w):=by
 have pL:Hid (∀c w,Calls prog 173 #[.string ⟨#[48,49,50,51,52,53,54,55,56,57,97,98,99,100,101,102]⟩, .int .u8 (UInt8.toNat c:Int)] w fun e w'=>e= .returned (.int .i64 (dv c))∧w'=w):=GJ;have jJ:((s.size:Int) !=8)=false:=by rw[hs];rfl
 go_enter func132,ntmps132;go_wp2;go_loopw [12] (fun i wr=> ∃k:Nat,k<=4∧i= .int .i64 k∧Hid (∀i,i<2*k->0<=dv (s.data.toList[i]?.getD 0))∧wr=((w.alloc (.cells #[.int .u8 0, .int .u8 0, .int .u8 0, .int .u8 0] 143)).alloc (.cells #[.int .u8 (partAt s.data.toList k 0), .int .u8 (partAt s.data.toList k 1), .int .u8 (partAt s.data.toList k 2), .int .u8 (partAt s.data.toList k 3)] 143))) (fun i _=>4-(intOf i).toNat)
 case atStart=>exact⟨0,bh _,rfl,(by intro i hi;omega),rfl⟩
 case round=>
  obtain⟨k,hk,rfl,HD,rfl⟩:=hrel;by_cases aN:k<4
  ·obtain⟨h,hh⟩: ∃h,dv (s.data.toList[2*k]?.getD 0)=h:=⟨_,rfl⟩;obtain⟨l,hl⟩: ∃l,dv (s.data.toList[2*k+1]?.getD 0)=l:=⟨_,rfl⟩;have hhb:=Ip (s.data.toList[2*k]?.getD 0);have hlb:=Ip (s.data.toList[2*k+1]?.getD 0);rw[hh]at hhb;rw[hl]at hlb;have Xc:Hid (∀w,Calls prog 173 #[.string ⟨#[48,49,50,51,52,53,54,55,56,57,97,98,99,100,101,102]⟩, .int .u8 (s[2*k].toNat:Int)] w fun e w'=>e= .returned (.int .i64 h)∧w'=w):=fun w=>by rw[<-hh,<-byte_at s (2*k) (by omega)];exact pL.out _ w
   have Xd:Hid (∀w,Calls prog 173 #[.string ⟨#[48,49,50,51,52,53,54,55,56,57,97,98,99,100,101,102]⟩, .int .u8 (s[2*k+1].toNat:Int)] w fun e w'=>e= .returned (.int .i64 l)∧w'=w):=fun w=>by rw[<-hl,<-byte_at s (2*k+1) (by omega)];exact pL.out _ w
   have HH:Hid (dv (s.data.toList[2*k]?.getD 0)=h):=hh;have HL:Hid (dv (s.data.toList[2*k+1]?.getD 0)=l):=hl;clear hh hl pL;by_cases h0:h<0
   ·have sV:Hid (¬fM s.data.toList):=fun hd=>by have:=hd (2*k) (by omega);rw[HH.out]at this;omega
    go_wp2_with fail;refine(Xc.out _).mono ?_;rintro e w1⟨rfl,rfl⟩;go_wp2_with fail;refine(Xd.out _).mono ?_;rintro e w1⟨rfl,rfl⟩;go_wp2;refine bodyPost_ret (v:= .tuple #[.agg #[.int .u8 0, .int .u8 0, .int .u8 0, .int .u8 0], .bool false]) (by simp[results,results132,go_sem]) rfl ⟨Or.inr ⟨sV.out,rfl⟩, ?_⟩;exact(((au _ _).alloc (af _) _).alloc (by simp) _)
   have h0d:decide (h<0)=false:=by simp;omega
   by_cases l0:l<0
   ·have sV:Hid (¬fM s.data.toList):=fun hd=>by have:=hd (2*k+1) (by omega);rw[HL.out]at this;omega
    go_wp2_with fail;refine(Xc.out _).mono ?_;rintro e w1⟨rfl,rfl⟩;go_wp2_with fail;refine(Xd.out _).mono ?_;rintro e w1⟨rfl,rfl⟩;go_wp2;refine bodyPost_ret (v:= .tuple #[.agg #[.int .u8 0, .int .u8 0, .int .u8 0, .int .u8 0], .bool false]) (by simp[results,results132,go_sem]) rfl ⟨Or.inr ⟨sV.out,rfl⟩, ?_⟩;exact(((au _ _).alloc (af _) _).alloc (by simp) _)
   have l0d:decide (l<0)=false:=by simp;omega
   have Xe:Hid (∀i,i<2*(k+1)->0<=dv (s.data.toList[i]?.getD 0)):=fun i hi=>by
    rcases Nat.lt_or_ge i (2*k)with h'|h'
    ·exact HD.out i h'
    ·rcases Nat.lt_or_ge i (2*k+1)with h''|h''
     ·obtain rfl:i=2*k:=by omega
      rw[HH.out];omega
     ·obtain rfl:i=2*k+1:=by omega
      rw[HL.out];omega
   clear HD;go_wp2_with fail;refine(Xc.out _).mono ?_;rintro e w1⟨rfl,rfl⟩;go_wp2_with fail;refine(Xd.out _).mono ?_;rintro e w1⟨rfl,rfl⟩;have hk4:k=0∨k=1∨k=2∨k=3:=by omega
   rcases hk4 with rfl|rfl|rfl|rfl
   ·go_wp2;refine⟨⟨1,by omega,rfl,Xe, ?_⟩,by simp[intOf]⟩;rw[vB (by omega) (by omega),rW HH.out HL.out,eZ s.data.toList (k:=0) (j:=1) (by decide),eZ s.data.toList (k:=0) (j:=2) (by decide),eZ s.data.toList (k:=0) (j:=3) (by decide)]
   ·go_wp2;refine⟨⟨2,by omega,rfl,Xe, ?_⟩,by simp[intOf]⟩;rw[vB (by omega) (by omega),rW HH.out HL.out,eZ s.data.toList (k:=1) (j:=0) (by decide),eZ s.data.toList (k:=1) (j:=2) (by decide),eZ s.data.toList (k:=1) (j:=3) (by decide)]
   ·go_wp2;refine⟨⟨3,by omega,rfl,Xe, ?_⟩,by simp[intOf]⟩;rw[vB (by omega) (by omega),rW HH.out HL.out,eZ s.data.toList (k:=2) (j:=0) (by decide),eZ s.data.toList (k:=2) (j:=1) (by decide),eZ s.data.toList (k:=2) (j:=3) (by decide)]
   ·go_wp2;refine⟨⟨4,by omega,rfl,Xe, ?_⟩,by simp[intOf]⟩;rw[vB (by omega) (by omega),rW HH.out HL.out,eZ s.data.toList (k:=3) (j:=0) (by decide),eZ s.data.toList (k:=3) (j:=1) (by decide),eZ s.data.toList (k:=3) (j:=2) (by decide)]
  ·obtain rfl:k=4:=by omega
   have RG:Hid (fM s.data.toList):=fun i hi=>HD.out i (by omega);go_wp2;refine bodyPost_ret (v:= .tuple #[.agg #[.int .u8 (partAt s.data.toList 4 0), .int .u8 (partAt s.data.toList 4 1), .int .u8 (partAt s.data.toList 4 2), .int .u8 (partAt s.data.toList 4 3)], .bool true]) (by simp[results,results132,go_sem]) rfl ⟨Or.inl ⟨RG.out,rfl⟩, ?_⟩;exact(((au _ _).alloc (af _) _).alloc (by simp) _)
end aG
namespace aG
open Go.RowKit bG
attribute [local go_sem] ae ag
variable{l:List UInt8}{w:World}
theorem Um: ∀c:UInt8,0<=dv c->dg (dv c)=c:=by
 have h: ∀n:Fin 256,0<=dv (UInt8.ofNat n.val)->dg (dv (UInt8.ofNat n.val))=UInt8.ofNat n.val:=by decide+kernel
 intro c;have:=h ⟨c.toNat,c.toNat_lt⟩;simpa using this
theorem uk(n:Int)(h0:0<=n)(h1:n<=15):dv (dg n)=n:=by
 have h: ∀n:Fin 16,dv (dg (n.val:Int))=(n.val:Int):=by decide+kernel
 have:=h ⟨n.toNat,by omega⟩;simpa[Int.toNat_of_nonneg h0]using this
theorem sy(hd:fM l){j:Nat}(hj:j<4):two (part l j)= [l[2*j]?.getD 0,l[2*j+1]?.getD 0]:=by
 have h1:=hd (2*j) (by omega);have h2:=hd (2*j+1) (by omega);have b1:=Ip (l[2*j]?.getD 0);have b2:=Ip (l[2*j+1]?.getD 0);have e1:part l j/16=dv (l[2*j]?.getD 0):=by unfold part;omega
 have e2:part l j %16=dv (l[2*j+1]?.getD 0):=by unfold part;omega
 unfold two;rw[e1,e2,Um _ h1,Um _ h2]
theorem eight(h:l.length=8):l= [l[0]?.getD 0,l[1]?.getD 0,l[2]?.getD 0,l[3]?.getD 0,l[4]?.getD 0,l[5]?.getD 0,l[6]?.getD 0,l[7]?.getD 0]:=by
 match l,h with
 | [a,b,c,d,e,f,g,i],_=>rfl
theorem QU{t:List UInt8}(h:l.length=8):l=hex t↔fM l∧part l 0=sm t t.length 0∧part l 1=sm t t.length 1∧part l 2=sm t t.length 2∧part l 3=sm t t.length 3:=by
 constructor
 ·intro e;subst e;have b0:=gQ t t.length 0;have b1:=gQ t t.length 1;have b2:=gQ t t.length 2;have b3:=gQ t t.length 3;have d0:=uk (sm t t.length 0/16) (by omega) (by omega);have d1:=uk (sm t t.length 0 %16) (by omega) (by omega);have d2:=uk (sm t t.length 1/16) (by omega) (by omega);have d3:=uk (sm t t.length 1 %16) (by omega) (by omega);have d4:=uk (sm t t.length 2/16) (by omega) (by omega);have d5:=uk (sm t t.length 2 %16) (by omega) (by omega);have d6:=uk (sm t t.length 3/16) (by omega) (by omega);have d7:=uk (sm t t.length 3 %16) (by omega) (by omega);refine⟨fun i hi=> ?_, ?_, ?_, ?_, ?_⟩
  ·match i,hi with
   |0,_=>show 0<=dv (dg (sm t t.length 0/16));omega
   |1,_=>show 0<=dv (dg (sm t t.length 0 %16));omega
   |2,_=>show 0<=dv (dg (sm t t.length 1/16));omega
   |3,_=>show 0<=dv (dg (sm t t.length 1 %16));omega
   |4,_=>show 0<=dv (dg (sm t t.length 2/16));omega
   |5,_=>show 0<=dv (dg (sm t t.length 2 %16));omega
   |6,_=>show 0<=dv (dg (sm t t.length 3/16));omega
   |7,_=>show 0<=dv (dg (sm t t.length 3 %16));omega
  ·show 16*dv (dg (sm t t.length 0/16))+dv (dg (sm t t.length 0 %16))=_;omega
  ·show 16*dv (dg (sm t t.length 1/16))+dv (dg (sm t t.length 1 %16))=_;omega
  ·show 16*dv (dg (sm t t.length 2/16))+dv (dg (sm t t.length 2 %16))=_;omega
  ·show 16*dv (dg (sm t t.length 3/16))+dv (dg (sm t t.length 3 %16))=_;omega
 ·rintro⟨hd,h0,h1,h2,h3⟩;unfold hex;rw[<-h0,<-h1,<-h2,<-h3,sy hd (by omega),sy hd (by omega),sy hd (by omega),sy hd (by omega)];exact eight h
theorem Dz{n:Nat}(h:l.length=n+9):line (l.take n)=l↔l[n]?=some 32∧l.drop (n+1)=hex (l.take n):=by
 have hn:n<l.length:=by omega
 have e:l=l.take n++(l[n]::l.drop (n+1)):=by rw[<-List.drop_eq_getElem_cons hn,List.take_append_drop]
 have el:(l.take n).length=n:=by simp;omega
 constructor
 ·intro hl;have h2:l.take n++([32]++hex (l.take n))=l.take n++(l[n]::l.drop (n+1)):=by
   rw[<-e];unfold line at hl;rw[List.append_assoc]at hl;exact hl
  have h3:=List.append_cancel_left h2;simp only[List.cons_append,List.nil_append,List.cons.injEq]at h3;exact⟨by rw[aY hn,<-h3.1],h3.2.symm⟩
 ·rintro⟨h1,h2⟩;rw[aY hn]at h1;have SD:=Option.some.inj h1;unfold line;rw[<-h2,List.append_assoc]
  conv=>rhs;rw[e,SD]
  rfl
theorem Nb(s:ByteArray)(n:Nat):(s.extract n s.size).data.toList=s.data.toList.drop n:=by
 have e:s.size-n=(s.data.toList.drop n).length:=by simp
 simp only[ByteArray.data_extract,Array.toList_extract,List.extract_eq_take_drop];rw[e,List.take_length]
theorem YT(a b c d e f g h:Int)(w:World):(Op.equalIn 10000 143 (.agg #[.int .u8 a, .int .u8 b, .int .u8 c, .int .u8 d]) (.agg #[.int .u8 e, .int .u8 f, .int .u8 g, .int .u8 h])).run prog w= .ok (a==e &&(b==f &&(c==g &&d==h))) w:=by have u3:=underlying5;have a3:=isAgg5;have z3:=sizeOf5;rw[show(10000:Nat)=9999+1 from rfl,Op.equalIn];simp only[Sem.run_bind,run_underlying underlying143,Result.andThen_ok];simp only[Std.Legacy.Range.forIn_eq_forIn_range',Std.Legacy.Range.size,Nat.sub_zero,Nat.add_sub_cancel,Nat.div_one,List.range'_succ,List.range'_zero,List.forIn_cons,List.forIn_nil];go_simp;by_cases h1:a=e<;>by_cases h2:b=f<;>by_cases h3:c=g<;>by_cases h4:d=h<;>simp[h1,h2,h3,h4]
attribute [local go_sem] YT
theorem TP{w1:World}(hb:Below w.heap.size w w1)(p0 p1 p2 p3:Int): ∃w3,w1.alloc (.cells #[.int .u8 p0, .int .u8 p1, .int .u8 p2, .int .u8 p3] 143)=w3∧Below w.heap.size w w3∧w1.heap.size<w3.heap.size∧w3.cell? ⟨w1.heap.size,0,none⟩=some (.int .u8 p0)∧w3.cell? ⟨w1.heap.size,1,none⟩=some (.int .u8 p1)∧w3.cell? ⟨w1.heap.size,2,none⟩=some (.int .u8 p2)∧w3.cell? ⟨w1.heap.size,3,none⟩=some (.int .u8 p3):=by refine⟨_,rfl,hb.alloc hb.size _,by simp, ?_⟩;have h:=heap_alloc_new w1 (.cells #[.int .u8 p0, .int .u8 p1, .int .u8 p2, .int .u8 p3] 143);simp only[World.cell?,h];simp
theorem QR{w':World}{b:Nat}{v0 v1 v2 v3:Value}(hb:Below w.heap.size w w')(aN:b<w.heap.size)(h0:w.cell? ⟨b,0,none⟩=some v0)(h1:w.cell? ⟨b,1,none⟩=some v1)(h2:w.cell? ⟨b,2,none⟩=some v2)(h3:w.cell? ⟨b,3,none⟩=some v3):w'.cell? ⟨b,0,none⟩=some v0∧w'.cell? ⟨b,1,none⟩=some v1∧w'.cell? ⟨b,2,none⟩=some v2∧w'.cell? ⟨b,3,none⟩=some v3:=
 ⟨by rw[hb.cell (p:=⟨b,0,none⟩) aN];exact h0,by rw[hb.cell (p:=⟨b,1,none⟩) aN];exact h1,by rw[hb.cell (p:=⟨b,2,none⟩) aN];exact h2,by rw[hb.cell (p:=⟨b,3,none⟩) aN];exact h3⟩
theorem KW(s:ByteArray)(w:World)(hs:s.size<=4194304):Calls prog 87 #[.string s] w fun e w'=>e= .returned (.tuple #[.string ⟨(di s.data.toList).toArray⟩, .bool (fZ s.data.toList)])∧Below w.heap.size w w':=by
 have e0:s.data.toList.length=s.size:=by simp
 by_cases h80:80<s.size
 ·have HF:Hid (di s.data.toList= []∧fZ s.data.toList=false):=lW (by omega);clear e0;go_enter func87,ntmps87;go_wp2
  go_ret2
  exact⟨nc HF.out,au _ _⟩
 have abB:decide (80<(s.size:Int))=false:=by simp;omega
 by_cases h9:s.size<9
 ·have HF:Hid (di s.data.toList= []∧fZ s.data.toList=false):=lW (by omega);clear e0;go_enter func87,ntmps87;go_wp2
  go_ret2
  exact⟨nc HF.out,au _ _⟩
 obtain⟨n,hn⟩: ∃n,s.size=n+9:=⟨s.size-9,by omega⟩;have hd9:decide ((s.size:Int)-9<0)=false:=by simp;omega
 have V6:(s.size:Int)-9=(n:Int):=by omega
 have hnl:n<s.size:=by omega
 have GI:s.data.toList.length-9=n:=by omega
 have BV:s.data.toList.length=n+9:=by omega
 have lC:s.data.toList[n]?=some s[n]:=by rw[aY (by omega)];rfl
 by_cases hb:s[n]=32
 ·have iI:((s[n].toNat:Int) !=32)=false:=by rw[hb];rfl
  obtain⟨t,ht⟩: ∃t,s.extract 0 n=t:=⟨_,rfl⟩;obtain⟨u,hu⟩: ∃u,s.extract (n+1) s.size=u:=⟨_,rfl⟩;have Wh:t.data.toList=s.data.toList.take n:=by rw[<-ht,CC s n]
  have hul:u.data.toList=s.data.toList.drop (n+1):=by rw[<-hu];exact Nb s (n+1)
  have NW:t.size=n:=by rw[<-ht];simp;omega
  have hus:u.size=8:=by rw[<-hu];simp;omega
  have Uz:u.data.toList.length=8:=by simp[hus]
  have UM:t.data.toList.length=t.size:=by simp
  have VW:=Dz BV;rw[<-hul,<-Wh,QU Uz,UM]at VW;have Ux:line t.data.toList=s.data.toList↔fM u.data.toList∧part u.data.toList 0=sm t.data.toList t.size 0∧part u.data.toList 1=sm t.data.toList t.size 1∧part u.data.toList 2=sm t.data.toList t.size 2∧part u.data.toList 3=sm t.data.toList t.size 3:=VW.trans ⟨fun h=>h.2,fun h=>⟨by rw[lC,hb],h⟩⟩;have sV:Hid (¬(line t.data.toList=s.data.toList)->di s.data.toList= []∧fZ s.data.toList=false):=fun h=>lW (by rw[GI,<-Wh];exact fun h'=>h h'.2.2);have Cb:Hid (line t.data.toList=s.data.toList->di s.data.toList=t.data.toList∧fZ s.data.toList=true):=fun h=>by have:=DT (l:=s.data.toList) ⟨by omega,by omega,by rw[GI,<-Wh];exact h⟩;rw[GI,<-Wh]at this;exact this
  have Jx:Hid (line t.data.toList=s.data.toList↔fM u.data.toList∧part u.data.toList 0=sm t.data.toList t.size 0∧part u.data.toList 1=sm t.data.toList t.size 1∧part u.data.toList 2=sm t.data.toList t.size 2∧part u.data.toList 3=sm t.data.toList t.size 3):=Ux;have HT:Hid (s.extract 0 n=t):=ht;have HU:Hid (s.extract (n+1) s.size=u):=hu;have HRS:Hid (∀w,Calls prog 132 #[.string u] w (uf u.data.toList w)):=fun w=>D1 u w hus;have HSO:Hid (∀w,Calls prog 84 #[.string t] w fun e w'=>e= .returned (.agg #[.int .u8 (sm t.data.toList t.size 0), .int .u8 (sm t.data.toList t.size 1), .int .u8 (sm t.data.toList t.size 2), .int .u8 (sm t.data.toList t.size 3)])∧Below w.heap.size w w'):=fun w=>Av t w (by omega);clear VW Ux ht hu Wh hul GI BV Uz UM e0 lC;go_enter func87,ntmps87;go_wp2_with fail;rw[<-hn,HU.out];refine(HRS.out _).mono ?_;rintro e w1⟨Zd,bT⟩;have ja:=bT.size;rcases Zd with⟨hd,rfl⟩|⟨hd,rfl⟩
  ·generalize part u.data.toList 0=p0 at*;generalize part u.data.toList 1=p1 at*;generalize part u.data.toList 2=p2 at*;generalize part u.data.toList 3=p3 at*;generalize sm t.data.toList t.size 0=q0 at*;generalize sm t.data.toList t.size 1=q1 at*;generalize sm t.data.toList t.size 2=q2 at*;generalize sm t.data.toList t.size 3=q3 at*;have HD:Hid (fM u.data.toList):=hd;clear hd;go_wp2_with fail;rw[HT.out];obtain⟨w3,XB,SG,aaR,c0,c1,c2,c3⟩:=TP bT p0 p1 p2 p3;rw[XB];clear XB bT ja;go_region_held3 (fun w'=>w'.cell? ⟨w1.heap.size,0,none⟩=some (.int .u8 p0)∧w'.cell? ⟨w1.heap.size,1,none⟩=some (.int .u8 p1)∧w'.cell? ⟨w1.heap.size,2,none⟩=some (.int .u8 p2)∧w'.cell? ⟨w1.heap.size,3,none⟩=some (.int .u8 p3)) (go_keep)
    (first|(go_at_call 84;refine(HSO.out _).mono ?_;rintro e w2⟨rfl,cZ⟩;obtain⟨k0,k1,k2,k3⟩:=QR cZ aaR c0 c1 c2 c3))
   all_goals
    have pD:Below w.heap.size w w2:=SG.drew.trans (cZ.mono SG.size);generalize hc:(!(p0==q0)||(!(p1==q1)||(!(p2==q2)|| !(p3==q3))))=bb;have HC:Hid (bb=false↔p0=q0∧p1=q1∧p2=q2∧p3=q3):=by show(_↔_);rw[<-hc];simp
    clear hc HSO HRS k0 k1 k2 k3 c0 c1 c2 c3 cZ;cases bb
    ·have HF:=Cb.out (Jx.out.2 ⟨HD.out,HC.out.1 rfl⟩);have HE:Hid (Ending.returned (.tuple #[.string t, .bool true])= .returned (.tuple #[.string ⟨(di s.data.toList).toArray⟩, .bool (fZ s.data.toList)])):=by show _=_;rw[HF.1,HF.2]
     clear HF HC Jx Cb sV;go_wp2
     go_ret2
     exact⟨HE.out,pD⟩
    ·have HF:Hid (di s.data.toList= []∧fZ s.data.toList=false):=sV.out (fun h=>by have:=HC.out.2 (Jx.out.1 h).2;cases this);clear HC Jx Cb sV;go_wp2
     go_ret2
     exact⟨nc HF.out,pD⟩
  ·have HF:Hid (di s.data.toList= []∧fZ s.data.toList=false):=sV.out (fun h=>hd (Jx.out.1 h).1);clear Jx Cb sV hd;go_wp2_with fail;rw[HT.out]
   go_quiet (fail)
   go_wp2
   go_ret2
   exact⟨nc HF.out,Below.wh (bT.alloc ja _) _⟩
 ·have iI:((s[n].toNat:Int) !=32)=true:=by
   rw[bne_iff_ne];intro h;apply hb;apply UInt8.toNat.inj;show s[n].toNat=32;omega
  have HF:Hid (di s.data.toList= []∧fZ s.data.toList=false):=lW (fun h=>by have h2:=h.2.2;rw[GI,Dz BV,lC]at h2;exact hb (Option.some.inj h2.1))
  clear e0 GI BV lC hb;go_enter func87,ntmps87;go_wp2
  go_ret2
  exact⟨nc HF.out,au _ _⟩
