import Derived.Test.YtffamlbkmjmipaaGreatDoorB24
import Derived.Test.YtffamlbkmjmipaaGreatDoorB26
import Derived.Test.YtffamlbkmjmipaaGreatDoorB29
import Derived.Test.YtffamlbkmjmipaaGreatDoorB30
set_option maxHeartbeats 8000000
set_option maxRecDepth 100000
namespace Go.Proofs.YtffamlbkmjmipaaGreatDoor
open _root_.Go.Proofs.Tryz
namespace fA
open Go.RowKit bJ Go.Lib
theorem Ot(r:List UInt8)(s:ByteArray){k:Nat}(hr:r.length<=81)(hk:min (81-r.length) s.size=k):r++(s.extract 0 k).data.toList=(r++s.data.toList).take 81:=by
 rw[nz];show r++s.data.toList.take k=_;rw[List.take_append,List.take_of_length_le hr];congr 1;have e:s.data.toList.length=s.size:=by simp
 by_cases h:81-r.length<=s.size
 ·rw[<-hk,Nat.min_eq_left h]
 ·rw[<-hk,Nat.min_eq_right (by omega),List.take_of_length_le (by omega),List.take_of_length_le (by omega)]
theorem M7{w:World}{base:Nat}{e:TypeId}{ao:Option Addr}{n cap:Nat}{xs:List Value}(h:w.ownsRow base e 1 (.slice ao n cap) n xs):w.ownsRow base e 1 (.slice ao 0 cap) 0 []:=by
 refine⟨rfl, ?_⟩;rcases h.2 with⟨h1,h0⟩|⟨g,cM,cur,h1,hb,hg,hn,hm,hs,ht⟩
 ·cases h1;exact Or.inl ⟨rfl,rfl⟩
 ·cases h1;exact Or.inr ⟨g,_,cur,rfl,hb,hg,aJ _,hm,hs,by simp⟩
end fA
namespace bJ
open Go.RowKit
attribute [local go_sem] aL.ag aL.ar
variable{q:Nat}
def cs0(k:List UInt8):Array Value:= #[.string ⟨k.toArray⟩, .int .i64 0, .int .i64 0, .string ⟨#[]⟩, .string ⟨#[]⟩]
theorem JP(r:List (List UInt8)):(aT ([112,117,108,108]::r)).2=dw [] r∧(dw [] r=true->jO [] r (cs0 [112,117,108,108])=(aT ([112,117,108,108]::r)).1.cs):=by
 rcases r with _|⟨a,_|⟨b,_|⟨c,_|⟨d,r⟩⟩⟩⟩
 all_goals simp[aT,dw,jO,eF,eU,dp,gi,kFail,cH,fC,Mg.cs,cs0]
theorem JM(r:List (List UInt8)):(aT ([98,101,97,116]::r)).2=dw [] r∧(dw [] r=true->jO [] r (cs0 [98,101,97,116])=(aT ([98,101,97,116]::r)).1.cs):=by
 rcases r with _|⟨a,_|⟨b,_|⟨c,_|⟨d,r⟩⟩⟩⟩
 all_goals simp[aT,dw,jO,eF,eU,dp,gi,kFail,cH,fC,Mg.cs,cs0]
theorem Gt(r:List (List UInt8)):(aT ([100,114,97,105,110]::r)).2=dw [] r∧(dw [] r=true->jO [] r (cs0 [100,114,97,105,110])=(aT ([100,114,97,105,110]::r)).1.cs):=by
 rcases r with _|⟨a,_|⟨b,_|⟨c,_|⟨d,r⟩⟩⟩⟩
 all_goals simp[aT,dw,jO,eF,eU,dp,gi,kFail,cH,fC,Mg.cs,cs0]
theorem NF(N1:Nat)(r:List (List UInt8)):(aT ([99,97,110]::r)).2=dw [dI N1 1] r∧(dw [dI N1 1] r=true->jO [dI N1 1] r (cs0 [99,97,110])=(aT ([99,97,110]::r)).1.cs):=by
 rcases r with _|⟨a,_|⟨b,_|⟨c,_|⟨d,r⟩⟩⟩⟩
 all_goals simp[aT,dw,jO,eF,eU,dp,gi,kFail,cH,fC,dI,Mg.cs,cs0]
theorem JO(N1 N2:Nat)(r:List (List UInt8)):(aT ([102,97,105,108]::r)).2=dw [dI N1 1,dI N2 2] r∧(dw [dI N1 1,dI N2 2] r=true->jO [dI N1 1,dI N2 2] r (cs0 [102,97,105,108])=(aT ([102,97,105,108]::r)).1.cs):=by
 rcases r with _|⟨a,_|⟨b,_|⟨c,_|⟨d,r⟩⟩⟩⟩
 all_goals simp[aT,dw,jO,eF,eU,dp,gi,kFail,cH,fC,dI,Mg.cs,cs0]
theorem NG(N1 B1 B2 B3 B4:Nat)(r:List (List UInt8)):(aT ([115,117,98]::r)).2=dw [dI N1 1,fR B1 B2 3 ux,fR B3 B4 4 m6] r∧(dw [dI N1 1,fR B1 B2 3 ux,fR B3 B4 4 m6] r=true->jO [dI N1 1,fR B1 B2 3 ux,fR B3 B4 4 m6] r (cs0 [115,117,98])=(aT ([115,117,98]::r)).1.cs):=by
 rcases r with _|⟨a,_|⟨b,_|⟨c,_|⟨d,r⟩⟩⟩⟩
 all_goals simp[aT,dw,jO,eF,eU,dp,gi,kFail,cH,fC,dI,fR,Bool.and_assoc,Mg.cs,cs0]
theorem JN(N1 N2 B1 B2:Nat)(r:List (List UInt8)):(aT ([100,111,110,101]::r)).2=dw [dI N1 1,dI N2 2,fR B1 B2 4 m6] r∧(dw [dI N1 1,dI N2 2,fR B1 B2 4 m6] r=true->jO [dI N1 1,dI N2 2,fR B1 B2 4 m6] r (cs0 [100,111,110,101])=(aT ([100,111,110,101]::r)).1.cs):=by
 rcases r with _|⟨a,_|⟨b,_|⟨c,_|⟨d,r⟩⟩⟩⟩
 all_goals simp[aT,dw,jO,eF,eU,dp,gi,kFail,cH,dI,fR,Bool.and_assoc,Mg.cs,cs0]
theorem Gu{k:List UInt8}(h0:(k== [112,117,108,108])=false)(h1:(k== [98,101,97,116])=false)(h2:(k== [100,114,97,105,110])=false)(h3:(k== [99,97,110])=false)(h4:(k== [102,97,105,108])=false)(h5:(k== [115,117,98])=false)(h6:(k== [100,111,110,101])=false)(r:List (List UInt8)):(aT (k::r)).2=false:=by
 have e:k≠ [112,117,108,108]∧k≠ [98,101,97,116]∧k≠ [100,114,97,105,110]∧k≠ [99,97,110]∧k≠ [102,97,105,108]∧k≠ [115,117,98]∧k≠ [100,111,110,101]:=⟨by simpa using h0,by simpa using h1,by simpa using h2,by simpa using h3,by simpa using h4,by simpa using h5,by simpa using h6⟩;obtain⟨e0,e1,e2,e3,e4,e5,e6⟩:=e;rcases r with _|⟨a,_|⟨b,_|⟨c,_|⟨d,r⟩⟩⟩⟩
 all_goals simp[aT,eF,eU,dp,gi,kFail,cH,fC,e0,e1,e2,e3,e4,e5,e6]
def fvs(fs:List JT):Array Value:=(fs.map fun f=>Value.func (.func f.g) #[] f.lb).toArray
theorem BK(W:World)(r:List (List UInt8))(fs:List JT)(ao:Option Addr)(a cap:Nat)(cs:Array Value)(hq:W.heap[q]?=some (.cells cs 149 (0,0)))(hcs:cs.size=5)(hf: ∀f∈fs,f.ok q (W.alloc (.cells (fvs fs) 234)))(bI:0<r.length->ao=some ⟨a,1,none⟩∧a<W.heap.size∧a≠q)(mi: ∀x∈r,x.length<=4194304)(gS:r.length<=4194304)(nC:fs.length<=3)(pJ: ∀i (h:i<r.length),W.cell? ⟨a,1+i,none⟩=some (.string ⟨(r[i]'h).toArray⟩)):Calls prog 176 #[.slice ao r.length cap, .slice (some ⟨W.heap.size,0,none⟩) fs.length fs.length] (W.alloc (.cells (fvs fs) 234)) fun e w'=>e= .returned (.bool (dw fs r))∧Only (fun b=>b=q) W w'∧(dw fs r=true->w'.heap[q]?=some (.cells (jO fs r cs) 149 (0,0))):=by
 have uK:q<W.heap.size:=(cT.1 hq).1;have hb:Below W.heap.size W (W.alloc (.cells (fvs fs) 234)):=(ah _ _).alloc (ae _) _;refine(Kk q r fs ao (some ⟨W.heap.size,0,none⟩) a W.heap.size cap fs.length _ cs hf ((hb.block q uK).trans hq) hcs (fun h=> ?_) (fun _=>⟨rfl,by simp,by omega⟩) mi nC gS (fun i h=> ?_) (fun i h=> ?_)).mono ?_
 ·obtain⟨h1,h2,h3⟩:=bI h;exact⟨h1,by simp;omega,h3⟩
 ·obtain⟨h1,h2,h3⟩:=bI (by omega);rw[hb.cell (p:=⟨a,1+i,none⟩) h2];exact pJ i h
 ·simp only[World.cell?,heap_alloc_new];show(fvs fs)[i]?=_;unfold fvs;simp[h]
 ·rintro e w'⟨rfl,ho,hp⟩;exact⟨rfl,(ic hb).trans ho (fun _ _ h=>h),hp⟩
theorem BL(W:World)(r:List (List UInt8))(ao:Option Addr)(a cap:Nat)(cs:Array Value)(hq:W.heap[q]?=some (.cells cs 149 (0,0)))(hcs:cs.size=5)(bI:0<r.length->ao=some ⟨a,1,none⟩∧a<W.heap.size∧a≠q)(mi: ∀x∈r,x.length<=4194304)(gS:r.length<=4194304)(pJ: ∀i (h:i<r.length),W.cell? ⟨a,1+i,none⟩=some (.string ⟨(r[i]'h).toArray⟩)):Calls prog 176 #[.slice ao r.length cap, .slice none 0 0] W fun e w'=>e= .returned (.bool (dw [] r))∧Only (fun b=>b=q) W w'∧(dw [] r=true->w'.heap[q]?=some (.cells (jO [] r cs) 149 (0,0))):=
 Kk q r [] ao none a 0 cap 0 W cs (fun f hf=>by cases hf) hq hcs bI (fun h=>absurd h (by simp)) mi (by simp) gS pJ (fun i h=>absurd h (by simp))
theorem dQ{w w':World}(h:Below w.drew.heap.size w.drew w'):Below w.heap.size w w':=⟨h.os,h.tape,h.output,h.size,h.block⟩
def tq(q:Nat)(k:List UInt8)(r:List (List UInt8))(w:World)(e:Ending)(w':World):Prop:=e= .returned (.bool (aT (k::r)).2)∧Only (fun b=>b=q) w w'∧((aT (k::r)).2=true->w'.heap[q]?=some (.cells (aT (k::r)).1.cs 149 (0,0)))
theorem mJ(q k:Nat)(w:World):Calls prog 175 #[.pointer (some ⟨q,k,none⟩)] w fun e w'=> ∃N,e= .returned (.func (.func 216) #[] #[.pointer (some ⟨N,0,none⟩)])∧w.heap.size<=N∧N<w'.heap.size∧Below w.heap.size w w'∧w'.cell? ⟨N,0,none⟩=some (.pointer (some ⟨q,k,none⟩)):=by refine(E7 q k w).mono ?_;rintro e w'⟨rfl,rfl⟩;exact⟨_,rfl,ae _,by simp,(ah _ _).alloc (ae _) _,by simp only[World.cell?,heap_alloc_new];rfl⟩
theorem Wq(q k g:Nat)(w:World):Calls prog 177 #[.pointer (some ⟨q,k,none⟩), .func (.func g) #[] #[]] w fun e w'=> ∃B1 B2,e= .returned (.func (.func 219) #[] #[.pointer (some ⟨B1,0,none⟩), .pointer (some ⟨B2,0,none⟩)])∧w.heap.size<=B1∧B1<w'.heap.size∧w.heap.size<=B2∧B2<w'.heap.size∧Below w.heap.size w w'∧w'.cell? ⟨B1,0,none⟩=some (.pointer (some ⟨q,k,none⟩))∧w'.cell? ⟨B2,0,none⟩=some (.func (.func g) #[] #[]):=by
 refine(ND q k g w).mono ?_;rintro e w'⟨rfl,rfl⟩;have hb1:Below w.heap.size w (w.alloc (.cells #[.pointer (some ⟨q,k,none⟩)] 239)):=(ah _ _).alloc (ae _) _;have iA:(w.alloc (.cells #[.pointer (some ⟨q,k,none⟩)] 239)).heap.size=w.heap.size+1:=by simp
 have bN:=(ah (w.heap.size+1) (w.alloc (.cells #[.pointer (some ⟨q,k,none⟩)] 239))).alloc (by omega) (.cells #[.func (.func g) #[] #[]] 116);refine⟨w.heap.size,w.heap.size+1,rfl,ae _,by simp;omega,by omega,by simp,hb1.alloc (by omega) _, ?_, ?_⟩
 ·rw[bN.cell (p:=⟨w.heap.size,0,none⟩) (by show w.heap.size<w.heap.size+1;omega)];simp only[World.cell?,heap_alloc_new];rfl
 ·rw[<-iA];simp only[World.cell?,heap_alloc_new];rfl
theorem Nt(q:Nat)(k:List UInt8)(r:List (List UInt8))(ao:Option Addr)(a cap:Nat)(w:World)(jm:w.heap[q]?=some (.cells (cs0 k) 149 (0,0)))(bI:0<r.length->ao=some ⟨a,1,none⟩∧a<w.heap.size∧a≠q)(mi: ∀x∈r,x.length<=4194304)(gS:r.length<=4194304)(pJ: ∀i (h:i<r.length),w.cell? ⟨a,1+i,none⟩=some (.string ⟨(r[i]'h).toArray⟩))(hv:(k== [112,117,108,108])=true):Calls prog 134 #[.pointer (some ⟨q,0,none⟩), .slice ao r.length cap] w (tq q k r w):=by
 have uK:q<w.heap.size:=(cT.1 jm).1;have uG:Hid (∀k w1,_):=fun k w1=>mJ q k w1;have HK:Hid (∀W,Below w.heap.size w W->W.cell? ⟨q,0,none⟩=some (.string ⟨k.toArray⟩)):=fun W h=>by rw[h.cell (p:=⟨q,0,none⟩) uK];simp only[World.cell?,jm];rfl
 have HW:Hid (_∧_):=JP r;have hk:k= [112,117,108,108]:=by simpa using hv
 have HF:Hid (∀W,Below w.heap.size w W->Calls prog 176 #[.slice ao r.length cap, .slice none 0 0] W fun e w'=>e= .returned (.bool (aT (k::r)).2)∧Hid (Only (fun b=>b=q) w w'∧((aT (k::r)).2=true->w'.heap[q]?=some (.cells (aT (k::r)).1.cs 149 (0,0))))):=fun W h=>by
  refine(BL W r ao a cap (cs0 k) ((h.block q uK).trans jm) rfl (fun h0=> ?_) mi gS (fun i hi=> ?_)).mono ?_
  ·obtain⟨h1,h2,h3⟩:=bI h0;exact⟨h1,bP h2 h.size,h3⟩
  ·rw[h.cell (p:=⟨a,1+i,none⟩) (bI (by omega)).2.1];exact pJ i hi
  ·rintro e w'⟨rfl,ho,hp⟩;rw[hk]at hp⊢;exact⟨by rw[HW.out.1],(ic h).trans ho (fun _ _ h=>h),fun h=>by rw[HW.out.1]at h;rw[<-HW.out.2 h];exact hp h⟩
 clear jm bI mi pJ hk HW;generalize og:r.length=rl at*;clear og;have M1:True:=trivial;go_enter func134,ntmps134;go_wp2_with fail;go_region_held3 (fun _=>True) (trivial)
  (first
   |(go_at_call 175;first
     |(clear M1;go_must(refine(uG.out _ _).mono ?_;rintro e w1⟨N1,rfl,GV,Bi,hb1,uH⟩))
     |(go_must(refine(uG.out _ _).mono ?_;rintro e w2⟨N2,rfl,GW,GY,bN,zU⟩))))
 all_goals
  have gO:=dQ hb1;have HB:Below w.heap.size w w2:=gO.trans ((by first|exact bN|exact dQ bN:Below w1.heap.size w1 w2).mono gO.size);have c0:=HK.out w2 HB;have zN:Hid (Calls _ _ _ _ _):=HF.out w2 HB;go_wp2_with (first
   |(go_at_call 176;go_must(refine zN.out.mono ?_;rintro e w3⟨rfl,HP⟩)))
  go_ret;exact⟨rfl,HP.out⟩
theorem Nq(q:Nat)(k:List UInt8)(r:List (List UInt8))(ao:Option Addr)(a cap:Nat)(w:World)(jm:w.heap[q]?=some (.cells (cs0 k) 149 (0,0)))(bI:0<r.length->ao=some ⟨a,1,none⟩∧a<w.heap.size∧a≠q)(mi: ∀x∈r,x.length<=4194304)(gS:r.length<=4194304)(pJ: ∀i (h:i<r.length),w.cell? ⟨a,1+i,none⟩=some (.string ⟨(r[i]'h).toArray⟩))(h0:(k== [112,117,108,108])=false)(hv:(k== [98,101,97,116])=true):Calls prog 134 #[.pointer (some ⟨q,0,none⟩), .slice ao r.length cap] w (tq q k r w):=by
 have uK:q<w.heap.size:=(cT.1 jm).1;have uG:Hid (∀k w1,_):=fun k w1=>mJ q k w1;have HK:Hid (∀W,Below w.heap.size w W->W.cell? ⟨q,0,none⟩=some (.string ⟨k.toArray⟩)):=fun W h=>by rw[h.cell (p:=⟨q,0,none⟩) uK];simp only[World.cell?,jm];rfl
 have HW:Hid (_∧_):=JM r;have hk:k= [98,101,97,116]:=by simpa using hv
 have HF:Hid (∀W,Below w.heap.size w W->Calls prog 176 #[.slice ao r.length cap, .slice none 0 0] W fun e w'=>e= .returned (.bool (aT (k::r)).2)∧Hid (Only (fun b=>b=q) w w'∧((aT (k::r)).2=true->w'.heap[q]?=some (.cells (aT (k::r)).1.cs 149 (0,0))))):=fun W h=>by
  refine(BL W r ao a cap (cs0 k) ((h.block q uK).trans jm) rfl (fun h0=> ?_) mi gS (fun i hi=> ?_)).mono ?_
  ·obtain⟨h1,h2,h3⟩:=bI h0;exact⟨h1,bP h2 h.size,h3⟩
  ·rw[h.cell (p:=⟨a,1+i,none⟩) (bI (by omega)).2.1];exact pJ i hi
  ·rintro e w'⟨rfl,ho,hp⟩;rw[hk]at hp⊢;exact⟨by rw[HW.out.1],(ic h).trans ho (fun _ _ h=>h),fun h=>by rw[HW.out.1]at h;rw[<-HW.out.2 h];exact hp h⟩
 clear jm bI mi pJ hk HW;generalize og:r.length=rl at*;clear og;have M1:True:=trivial;go_enter func134,ntmps134;go_wp2_with fail;go_region_held3 (fun _=>True) (trivial)
  (first
   |(go_at_call 175;first
     |(clear M1;go_must(refine(uG.out _ _).mono ?_;rintro e w1⟨N1,rfl,GV,Bi,hb1,uH⟩))
     |(go_must(refine(uG.out _ _).mono ?_;rintro e w2⟨N2,rfl,GW,GY,bN,zU⟩))))
 all_goals
  have gO:=dQ hb1;have HB:Below w.heap.size w w2:=gO.trans ((by first|exact bN|exact dQ bN:Below w1.heap.size w1 w2).mono gO.size);have c0:=HK.out w2 HB;have zN:Hid (Calls _ _ _ _ _):=HF.out w2 HB;go_wp2_with (first
   |(go_at_call 176;go_must(refine zN.out.mono ?_;rintro e w3⟨rfl,HP⟩)))
  go_ret;exact⟨rfl,HP.out⟩
theorem JG(q:Nat)(k:List UInt8)(r:List (List UInt8))(ao:Option Addr)(a cap:Nat)(w:World)(jm:w.heap[q]?=some (.cells (cs0 k) 149 (0,0)))(bI:0<r.length->ao=some ⟨a,1,none⟩∧a<w.heap.size∧a≠q)(mi: ∀x∈r,x.length<=4194304)(gS:r.length<=4194304)(pJ: ∀i (h:i<r.length),w.cell? ⟨a,1+i,none⟩=some (.string ⟨(r[i]'h).toArray⟩))(h0:(k== [112,117,108,108])=false)(h1:(k== [98,101,97,116])=false)(hv:(k== [100,114,97,105,110])=true):Calls prog 134 #[.pointer (some ⟨q,0,none⟩), .slice ao r.length cap] w (tq q k r w):=by
 have uK:q<w.heap.size:=(cT.1 jm).1;have uG:Hid (∀k w1,_):=fun k w1=>mJ q k w1;have HK:Hid (∀W,Below w.heap.size w W->W.cell? ⟨q,0,none⟩=some (.string ⟨k.toArray⟩)):=fun W h=>by rw[h.cell (p:=⟨q,0,none⟩) uK];simp only[World.cell?,jm];rfl
 have HW:Hid (_∧_):=Gt r;have hk:k= [100,114,97,105,110]:=by simpa using hv
 have HF:Hid (∀W,Below w.heap.size w W->Calls prog 176 #[.slice ao r.length cap, .slice none 0 0] W fun e w'=>e= .returned (.bool (aT (k::r)).2)∧Hid (Only (fun b=>b=q) w w'∧((aT (k::r)).2=true->w'.heap[q]?=some (.cells (aT (k::r)).1.cs 149 (0,0))))):=fun W h=>by
  refine(BL W r ao a cap (cs0 k) ((h.block q uK).trans jm) rfl (fun h0=> ?_) mi gS (fun i hi=> ?_)).mono ?_
  ·obtain⟨h1,h2,h3⟩:=bI h0;exact⟨h1,bP h2 h.size,h3⟩
  ·rw[h.cell (p:=⟨a,1+i,none⟩) (bI (by omega)).2.1];exact pJ i hi
  ·rintro e w'⟨rfl,ho,hp⟩;rw[hk]at hp⊢;exact⟨by rw[HW.out.1],(ic h).trans ho (fun _ _ h=>h),fun h=>by rw[HW.out.1]at h;rw[<-HW.out.2 h];exact hp h⟩
 clear jm bI mi pJ hk HW;generalize og:r.length=rl at*;clear og;have M1:True:=trivial;go_enter func134,ntmps134;go_wp2_with fail;go_region_held3 (fun _=>True) (trivial)
  (first
   |(go_at_call 175;first
     |(clear M1;go_must(refine(uG.out _ _).mono ?_;rintro e w1⟨N1,rfl,GV,Bi,hb1,uH⟩))
     |(go_must(refine(uG.out _ _).mono ?_;rintro e w2⟨N2,rfl,GW,GY,bN,zU⟩))))
 all_goals
  have gO:=dQ hb1;have HB:Below w.heap.size w w2:=gO.trans ((by first|exact bN|exact dQ bN:Below w1.heap.size w1 w2).mono gO.size);have c0:=HK.out w2 HB;have zN:Hid (Calls _ _ _ _ _):=HF.out w2 HB;go_wp2_with (first
   |(go_at_call 176;go_must(refine zN.out.mono ?_;rintro e w3⟨rfl,HP⟩)))
  go_ret;exact⟨rfl,HP.out⟩
theorem JH(q:Nat)(k:List UInt8)(r:List (List UInt8))(ao:Option Addr)(cap:Nat)(w:World)(jm:w.heap[q]?=some (.cells (cs0 k) 149 (0,0)))(h0:(k== [112,117,108,108])=false)(h1:(k== [98,101,97,116])=false)(h2:(k== [100,114,97,105,110])=false)(h3:(k== [99,97,110])=false)(h4:(k== [102,97,105,108])=false)(h5:(k== [115,117,98])=false)(h6:(k== [100,111,110,101])=false):Calls prog 134 #[.pointer (some ⟨q,0,none⟩), .slice ao r.length cap] w (tq q k r w):=by
 have uK:q<w.heap.size:=(cT.1 jm).1;have uG:Hid (∀k w1,_):=fun k w1=>mJ q k w1;have HK:Hid (∀W,Below w.heap.size w W->W.cell? ⟨q,0,none⟩=some (.string ⟨k.toArray⟩)):=fun W h=>by rw[h.cell (p:=⟨q,0,none⟩) uK];simp only[World.cell?,jm];rfl
 have HO:=Gu h0 h1 h2 h3 h4 h5 h6 r;have SE:Hid ((aT (k::r)).2=false):=HO;generalize og:r.length=rl at*;clear og HO;have M1:True:=trivial;go_enter func134,ntmps134;go_wp2_with fail;go_region_held3 (fun _=>True) (trivial)
  (first
   |(go_at_call 175;first
     |(clear M1;go_must(refine(uG.out _ _).mono ?_;rintro e w1⟨N1,rfl,GV,Bi,hb1,uH⟩))
     |(go_must(refine(uG.out _ _).mono ?_;rintro e w2⟨N2,rfl,GW,GY,bN,zU⟩))))
 all_goals
  have gO:=dQ hb1;have mf:Below w1.heap.size w1 w2:=by first|exact bN|exact dQ bN
  have HB:Below w.heap.size w w2:=gO.trans (mf.mono gO.size);have c0:=HK.out w2 HB;clear uG HK hb1 bN gO mf uH zU GV Bi GW GY;go_wp2;go_ret;exact⟨cO SE.out.symm,ic HB,fun h=>by rw[SE.out]at h;cases h⟩
variable{base:Nat}{dz:World}
theorem Rx(L:kE base dz)(q:Nat)(k:List UInt8)(r:List (List UInt8))(ao:Option Addr)(a cap:Nat)(w:World)(hb:Below base dz w)(hB:base<=w.heap.size)(Ba:base<=q)(jm:w.heap[q]?=some (.cells (cs0 k) 149 (0,0)))(bI:0<r.length->ao=some ⟨a,1,none⟩∧a<w.heap.size∧a≠q)(mi: ∀x∈r,x.length<=4194304)(gS:r.length<=4194304)(pJ: ∀i (h:i<r.length),w.cell? ⟨a,1+i,none⟩=some (.string ⟨(r[i]'h).toArray⟩))(h0:(k== [112,117,108,108])=false)(h1:(k== [98,101,97,116])=false)(h2:(k== [100,114,97,105,110])=false)(hv:(k== [99,97,110])=true):Calls prog 134 #[.pointer (some ⟨q,0,none⟩), .slice ao r.length cap] w (tq q k r w):=by
 have uK:q<w.heap.size:=(cT.1 jm).1;have uG:Hid (∀k w1,_):=fun k w1=>mJ q k w1;have HK:Hid (∀W,Below w.heap.size w W->W.cell? ⟨q,0,none⟩=some (.string ⟨k.toArray⟩)):=fun W h=>by rw[h.cell (p:=⟨q,0,none⟩) uK];simp only[World.cell?,jm];rfl
 have hk:k= [99,97,110]:=by simpa using hv
 have HF:Hid (∀W N1,Below w.heap.size w W->w.heap.size<=N1∧N1<W.heap.size->W.cell? ⟨N1,0,none⟩=some (.pointer (some ⟨q,1,none⟩))-> ∀nq,Calls prog 176 #[.slice ao r.length cap, .slice (some ⟨W.heap.size,0,none⟩) 1 1] ((W.drewN nq).alloc (.cells #[.func (.func 216) #[] #[.pointer (some ⟨N1,0,none⟩)]] 234)) fun e w'=>e= .returned (.bool (aT (k::r)).2)∧Hid (Only (fun b=>b=q) w w'∧((aT (k::r)).2=true->w'.heap[q]?=some (.cells (aT (k::r)).1.cs 149 (0,0))))):=fun W0 N1 h0 rW uH nq=>by
  obtain⟨W,eW⟩: ∃W,W0.drewN nq=W:=⟨_,rfl⟩;have es:W.heap.size=W0.heap.size:=by rw[<-eW];rfl
  have ec: ∀p,W.cell? p=W0.cell? p:=fun p=>by rw[<-eW];rfl
  have h:Below w.heap.size w W:=by rw[<-eW];exact⟨h0.os,h0.tape,h0.output,h0.size,h0.block⟩
  rw[eW,<-es];rw[<-es]at rW;rw[<-ec]at uH;have HW:=NF N1 r;have tR:Below W.heap.size W (W.alloc (.cells #[.func (.func 216) #[] #[.pointer (some ⟨N1,0,none⟩)]] 234)):=(ah _ _).alloc (ae _) _;have Po:base<=W.heap.size:=aw hB h.size;have NS:Below base dz (W.alloc (.cells #[.func (.func 216) #[] #[.pointer (some ⟨N1,0,none⟩)]] 234)):=(hb.trans (h.mono hB)).alloc Po _;have NQ:base<=(W.alloc (.cells #[.func (.func 216) #[] #[.pointer (some ⟨N1,0,none⟩)]] 234)).heap.size:=aw Po tR.size;have ay: ∀n,n<W.heap.size->n<(W.alloc (.cells #[.func (.func 216) #[] #[.pointer (some ⟨N1,0,none⟩)]] 234)).heap.size:=fun n hn=>bP hn tR.size;refine(BK W r [dI N1 1] ao a cap (cs0 k) ((h.block q uK).trans jm) rfl (fun f hf=> ?_) (fun h0=> ?_) mi gS (by simp) (fun i hi=> ?_)).mono ?_
  ·simp only[List.mem_cons,List.not_mem_nil,or_false]at hf;subst hf
   ·exact lh L NS NQ Ba (by omega) (ay _ rW.2) (by omega) ((tR.cell (p:=⟨N1,0,none⟩) rW.2).trans uH)
  ·obtain⟨h1,h2,h3⟩:=bI h0;exact⟨h1,bP h2 h.size,h3⟩
  ·rw[h.cell (p:=⟨a,1+i,none⟩) (bI (by omega)).2.1];exact pJ i hi
  ·rintro e w'⟨rfl,ho,hp⟩;rw[hk]at hp⊢;exact⟨by rw[HW.1],(ic h).trans ho (fun _ _ h=>h),fun h=>by rw[HW.1]at h;rw[<-HW.2 h];exact hp h⟩
 clear jm bI mi pJ L hk hb;generalize og:r.length=rl at*;clear og;have M1:True:=trivial;go_enter func134,ntmps134;go_wp2_with fail;go_region_held3 (fun _=>True) (trivial)
  (first
   |(go_at_call 175;first
     |(clear M1;go_must(refine(uG.out _ _).mono ?_;rintro e w1⟨N1,rfl,GV,Bi,hb1,uH⟩))
     |(go_must(refine(uG.out _ _).mono ?_;rintro e w2⟨N2,rfl,GW,GY,bN,zU⟩))))
 all_goals
  have gO:=dQ hb1;have mf:Below w1.heap.size w1 w2:=by first|exact bN|exact dQ bN
  have HB:Below w.heap.size w w2:=gO.trans (mf.mono gO.size);have c0:=HK.out w2 HB;have rW:w.heap.size<=N1∧N1<w2.heap.size:=⟨GV,bP Bi mf.size⟩;have xZ:w2.cell? ⟨N1,0,none⟩=some (.pointer (some ⟨q,1,none⟩)):=by rw[mf.cell (p:=⟨N1,0,none⟩) Bi];exact uH
  have Cb:w.heap.size<=N2∧N2<w2.heap.size:=⟨aw gO.size GW,GY⟩;have zN:Hid (Calls _ _ _ _ _):=HF.out w2 _ HB rW xZ 0;clear HF uG HK hb1 bN gO mf uH xZ zU HB GV Bi GW GY rW Cb;go_wp2_with (first
   |(go_at_call 176;go_must(refine zN.out.mono ?_;rintro e w3⟨rfl,HP⟩)))
  go_ret;exact⟨rfl,HP.out⟩
theorem Ns(L:kE base dz)(q:Nat)(k:List UInt8)(r:List (List UInt8))(ao:Option Addr)(a cap:Nat)(w:World)(hb:Below base dz w)(hB:base<=w.heap.size)(Ba:base<=q)(jm:w.heap[q]?=some (.cells (cs0 k) 149 (0,0)))(bI:0<r.length->ao=some ⟨a,1,none⟩∧a<w.heap.size∧a≠q)(mi: ∀x∈r,x.length<=4194304)(gS:r.length<=4194304)(pJ: ∀i (h:i<r.length),w.cell? ⟨a,1+i,none⟩=some (.string ⟨(r[i]'h).toArray⟩))(h0:(k== [112,117,108,108])=false)(h1:(k== [98,101,97,116])=false)(h2:(k== [100,114,97,105,110])=false)(h3:(k== [99,97,110])=false)(hv:(k== [102,97,105,108])=true):Calls prog 134 #[.pointer (some ⟨q,0,none⟩), .slice ao r.length cap] w (tq q k r w):=by
 have uK:q<w.heap.size:=(cT.1 jm).1;have uG:Hid (∀k w1,_):=fun k w1=>mJ q k w1;have HK:Hid (∀W,Below w.heap.size w W->W.cell? ⟨q,0,none⟩=some (.string ⟨k.toArray⟩)):=fun W h=>by rw[h.cell (p:=⟨q,0,none⟩) uK];simp only[World.cell?,jm];rfl
 have hk:k= [102,97,105,108]:=by simpa using hv
 have HF:Hid (∀W N1 N2,Below w.heap.size w W->w.heap.size<=N1∧N1<W.heap.size->w.heap.size<=N2∧N2<W.heap.size->W.cell? ⟨N1,0,none⟩=some (.pointer (some ⟨q,1,none⟩))->W.cell? ⟨N2,0,none⟩=some (.pointer (some ⟨q,2,none⟩))-> ∀nq,Calls prog 176 #[.slice ao r.length cap, .slice (some ⟨W.heap.size,0,none⟩) 2 2] ((W.drewN nq).alloc (.cells #[.func (.func 216) #[] #[.pointer (some ⟨N1,0,none⟩)], .func (.func 216) #[] #[.pointer (some ⟨N2,0,none⟩)]] 234)) fun e w'=>e= .returned (.bool (aT (k::r)).2)∧Hid (Only (fun b=>b=q) w w'∧((aT (k::r)).2=true->w'.heap[q]?=some (.cells (aT (k::r)).1.cs 149 (0,0))))):=fun W0 N1 N2 h0 rW Cb uH zU nq=>by
  obtain⟨W,eW⟩: ∃W,W0.drewN nq=W:=⟨_,rfl⟩;have es:W.heap.size=W0.heap.size:=by rw[<-eW];rfl
  have ec: ∀p,W.cell? p=W0.cell? p:=fun p=>by rw[<-eW];rfl
  have h:Below w.heap.size w W:=by rw[<-eW];exact⟨h0.os,h0.tape,h0.output,h0.size,h0.block⟩
  rw[eW,<-es];rw[<-es]at rW Cb;rw[<-ec]at uH zU;have HW:=JO N1 N2 r;have tR:Below W.heap.size W (W.alloc (.cells #[.func (.func 216) #[] #[.pointer (some ⟨N1,0,none⟩)], .func (.func 216) #[] #[.pointer (some ⟨N2,0,none⟩)]] 234)):=(ah _ _).alloc (ae _) _;have Po:base<=W.heap.size:=aw hB h.size;have NS:Below base dz (W.alloc (.cells #[.func (.func 216) #[] #[.pointer (some ⟨N1,0,none⟩)], .func (.func 216) #[] #[.pointer (some ⟨N2,0,none⟩)]] 234)):=(hb.trans (h.mono hB)).alloc Po _;have NQ:base<=(W.alloc (.cells #[.func (.func 216) #[] #[.pointer (some ⟨N1,0,none⟩)], .func (.func 216) #[] #[.pointer (some ⟨N2,0,none⟩)]] 234)).heap.size:=aw Po tR.size;have ay: ∀n,n<W.heap.size->n<(W.alloc (.cells #[.func (.func 216) #[] #[.pointer (some ⟨N1,0,none⟩)], .func (.func 216) #[] #[.pointer (some ⟨N2,0,none⟩)]] 234)).heap.size:=fun n hn=>bP hn tR.size;refine(BK W r [dI N1 1,dI N2 2] ao a cap (cs0 k) ((h.block q uK).trans jm) rfl (fun f hf=> ?_) (fun h0=> ?_) mi gS (by simp) (fun i hi=> ?_)).mono ?_
  ·simp only[List.mem_cons,List.not_mem_nil,or_false]at hf;rcases hf with rfl|rfl
   ·exact lh L NS NQ Ba (by omega) (ay _ rW.2) (by omega) ((tR.cell (p:=⟨N1,0,none⟩) rW.2).trans uH)
   ·exact lh L NS NQ Ba (by omega) (ay _ Cb.2) (by omega) ((tR.cell (p:=⟨N2,0,none⟩) Cb.2).trans zU)
  ·obtain⟨h1,h2,h3⟩:=bI h0;exact⟨h1,bP h2 h.size,h3⟩
  ·rw[h.cell (p:=⟨a,1+i,none⟩) (bI (by omega)).2.1];exact pJ i hi
  ·rintro e w'⟨rfl,ho,hp⟩;rw[hk]at hp⊢;exact⟨by rw[HW.1],(ic h).trans ho (fun _ _ h=>h),fun h=>by rw[HW.1]at h;rw[<-HW.2 h];exact hp h⟩
 clear jm bI mi pJ L hk hb;generalize og:r.length=rl at*;clear og;have M1:True:=trivial;go_enter func134,ntmps134;go_wp2_with fail;go_region_held3 (fun _=>True) (trivial)
  (first
   |(go_at_call 175;first
     |(clear M1;go_must(refine(uG.out _ _).mono ?_;rintro e w1⟨N1,rfl,GV,Bi,hb1,uH⟩))
     |(go_must(refine(uG.out _ _).mono ?_;rintro e w2⟨N2,rfl,GW,GY,bN,zU⟩))))
 all_goals
  have gO:=dQ hb1;have mf:Below w1.heap.size w1 w2:=by first|exact bN|exact dQ bN
  have HB:Below w.heap.size w w2:=gO.trans (mf.mono gO.size);have c0:=HK.out w2 HB;have rW:w.heap.size<=N1∧N1<w2.heap.size:=⟨GV,bP Bi mf.size⟩;have xZ:w2.cell? ⟨N1,0,none⟩=some (.pointer (some ⟨q,1,none⟩)):=by rw[mf.cell (p:=⟨N1,0,none⟩) Bi];exact uH
  have Cb:w.heap.size<=N2∧N2<w2.heap.size:=⟨aw gO.size GW,GY⟩;have zN:Hid (Calls _ _ _ _ _):=HF.out w2 _ _ HB rW Cb xZ zU 0;clear HF uG HK hb1 bN gO mf uH xZ zU HB GV Bi GW GY rW Cb;go_wp2_with (first
   |(go_at_call 176;go_must(refine zN.out.mono ?_;rintro e w3⟨rfl,HP⟩)))
  go_ret;exact⟨rfl,HP.out⟩
theorem Ry{base:Nat}{dz:World}(L:kE base dz)(q:Nat)(k:List UInt8)(r:List (List UInt8))(ao:Option Addr)(a cap:Nat)(w:World)(hb:Below base dz w)(hB:base<=w.heap.size)(Ba:base<=q)(jm:w.heap[q]?=some (.cells (cs0 k) 149 (0,0)))(bI:0<r.length->ao=some ⟨a,1,none⟩∧a<w.heap.size∧a≠q)(mi: ∀x∈r,x.length<=4194304)(gS:r.length<=4194304)(pJ: ∀i (h:i<r.length),w.cell? ⟨a,1+i,none⟩=some (.string ⟨(r[i]'h).toArray⟩))(h0:(k== [112,117,108,108])=false)(h1:(k== [98,101,97,116])=false)(h2:(k== [100,114,97,105,110])=false)(h3:(k== [99,97,110])=false)(h4:(k== [102,97,105,108])=false)(hv:(k== [115,117,98])=true):Calls prog 134 #[.pointer (some ⟨q,0,none⟩), .slice ao r.length cap] w (tq q k r w):=by
 have uK:q<w.heap.size:=(cT.1 jm).1;have uG:Hid (∀k w1,_):=fun k w1=>mJ q k w1;have HK:Hid (∀W,Below w.heap.size w W->W.cell? ⟨q,0,none⟩=some (.string ⟨k.toArray⟩)):=fun W h=>by rw[h.cell (p:=⟨q,0,none⟩) uK];simp only[World.cell?,jm];rfl
 have hk:k= [115,117,98]:=by simpa using hv
 have HF:Hid (∀W N1 B1 B2 B3 B4,Below w.heap.size w W->w.heap.size<=N1∧N1<W.heap.size->w.heap.size<=B1∧B1<W.heap.size->w.heap.size<=B2∧B2<W.heap.size->w.heap.size<=B3∧B3<W.heap.size->w.heap.size<=B4∧B4<W.heap.size->W.cell? ⟨N1,0,none⟩=some (.pointer (some ⟨q,1,none⟩))->W.cell? ⟨B1,0,none⟩=some (.pointer (some ⟨q,3,none⟩))->W.cell? ⟨B2,0,none⟩=some (.func (.func 178) #[] #[])->W.cell? ⟨B3,0,none⟩=some (.pointer (some ⟨q,4,none⟩))->W.cell? ⟨B4,0,none⟩=some (.func (.func 179) #[] #[])-> ∀nq,Calls prog 176 #[.slice ao r.length cap, .slice (some ⟨W.heap.size,0,none⟩) 3 3] ((W.drewN nq).alloc (.cells #[.func (.func 216) #[] #[.pointer (some ⟨N1,0,none⟩)], .func (.func 219) #[] #[.pointer (some ⟨B1,0,none⟩), .pointer (some ⟨B2,0,none⟩)], .func (.func 219) #[] #[.pointer (some ⟨B3,0,none⟩), .pointer (some ⟨B4,0,none⟩)]] 234)) fun e w'=>e= .returned (.bool (aT (k::r)).2)∧Hid (Only (fun b=>b=q) w w'∧((aT (k::r)).2=true->w'.heap[q]?=some (.cells (aT (k::r)).1.cs 149 (0,0))))):=fun W0 N1 B1 B2 B3 B4 h0 rW Yq Yr lB3 lB4 uH cB1 cB2 cB3 cB4 nq=>by
  obtain⟨W,eW⟩: ∃W,W0.drewN nq=W:=⟨_,rfl⟩;have es:W.heap.size=W0.heap.size:=by rw[<-eW];rfl
  have ec: ∀p,W.cell? p=W0.cell? p:=fun p=>by rw[<-eW];rfl
  have h:Below w.heap.size w W:=by rw[<-eW];exact⟨h0.os,h0.tape,h0.output,h0.size,h0.block⟩
  rw[eW,<-es];rw[<-es]at rW Yq Yr lB3 lB4;rw[<-ec]at uH cB1 cB2 cB3 cB4;have HW:=NG N1 B1 B2 B3 B4 r;have tR:Below W.heap.size W (W.alloc (.cells #[.func (.func 216) #[] #[.pointer (some ⟨N1,0,none⟩)], .func (.func 219) #[] #[.pointer (some ⟨B1,0,none⟩), .pointer (some ⟨B2,0,none⟩)], .func (.func 219) #[] #[.pointer (some ⟨B3,0,none⟩), .pointer (some ⟨B4,0,none⟩)]] 234)):=(ah _ _).alloc (ae _) _;have Po:base<=W.heap.size:=aw hB h.size;have NS:Below base dz (W.alloc (.cells #[.func (.func 216) #[] #[.pointer (some ⟨N1,0,none⟩)], .func (.func 219) #[] #[.pointer (some ⟨B1,0,none⟩), .pointer (some ⟨B2,0,none⟩)], .func (.func 219) #[] #[.pointer (some ⟨B3,0,none⟩), .pointer (some ⟨B4,0,none⟩)]] 234)):=(hb.trans (h.mono hB)).alloc Po _;have NQ:base<=(W.alloc (.cells #[.func (.func 216) #[] #[.pointer (some ⟨N1,0,none⟩)], .func (.func 219) #[] #[.pointer (some ⟨B1,0,none⟩), .pointer (some ⟨B2,0,none⟩)], .func (.func 219) #[] #[.pointer (some ⟨B3,0,none⟩), .pointer (some ⟨B4,0,none⟩)]] 234)).heap.size:=aw Po tR.size;have ay: ∀n,n<W.heap.size->n<(W.alloc (.cells #[.func (.func 216) #[] #[.pointer (some ⟨N1,0,none⟩)], .func (.func 219) #[] #[.pointer (some ⟨B1,0,none⟩), .pointer (some ⟨B2,0,none⟩)], .func (.func 219) #[] #[.pointer (some ⟨B3,0,none⟩), .pointer (some ⟨B4,0,none⟩)]] 234)).heap.size:=fun n hn=>bP hn tR.size;refine(BK W r [dI N1 1,fR B1 B2 3 ux,fR B3 B4 4 m6] ao a cap (cs0 k) ((h.block q uK).trans jm) rfl (fun f hf=> ?_) (fun h0=> ?_) mi gS (by simp) (fun i hi=> ?_)).mono ?_
  ·simp only[List.mem_cons,List.not_mem_nil,or_false]at hf;rcases hf with rfl|rfl|rfl
   ·exact lh L NS NQ Ba (by omega) (ay _ rW.2) (by omega) ((tR.cell (p:=⟨N1,0,none⟩) rW.2).trans uH)
   ·exact td (Et L) NS NQ Ba (by omega) (ay _ Yq.2) (by omega) (ay _ Yr.2) (by omega) ((tR.cell (p:=⟨B1,0,none⟩) Yq.2).trans cB1) ((tR.cell (p:=⟨B2,0,none⟩) Yr.2).trans cB2)
   ·exact td (tT L) NS NQ Ba (by omega) (ay _ lB3.2) (by omega) (ay _ lB4.2) (by omega) ((tR.cell (p:=⟨B3,0,none⟩) lB3.2).trans cB3) ((tR.cell (p:=⟨B4,0,none⟩) lB4.2).trans cB4)
  ·obtain⟨h1,h2,h3⟩:=bI h0;exact⟨h1,bP h2 h.size,h3⟩
  ·rw[h.cell (p:=⟨a,1+i,none⟩) (bI (by omega)).2.1];exact pJ i hi
  ·rintro e w'⟨rfl,ho,hp⟩;rw[hk]at hp⊢;exact⟨by rw[HW.1],(ic h).trans ho (fun _ _ h=>h),fun h=>by rw[HW.1]at h;rw[<-HW.2 h];exact hp h⟩
 clear jm bI mi pJ L hk hb;generalize og:r.length=rl at*;clear og;have HWD:Hid (∀k g w1,_):=fun k g w1=>Wq q k g w1;have M1:True:=trivial;go_enter func134,ntmps134;go_wp2_with fail;go_region_held3 (fun _=>True) (trivial)
  (first
   |(go_at_call 175;first
     |(clear M1;go_must(refine(uG.out _ _).mono ?_;rintro e w1⟨N1,rfl,GV,Bi,hb1,uH⟩))
     |(go_must(refine(uG.out _ _).mono ?_;rintro e w2⟨N2,rfl,GW,GY,bN,zU⟩))))
 all_goals
  have gO:=dQ hb1;have mf:Below w1.heap.size w1 w2:=by first|exact bN|exact dQ bN
  have HB:Below w.heap.size w w2:=gO.trans (mf.mono gO.size);have c0:=HK.out w2 HB;have rW:w.heap.size<=N1∧N1<w2.heap.size:=⟨GV,bP Bi mf.size⟩;have xZ:w2.cell? ⟨N1,0,none⟩=some (.pointer (some ⟨q,1,none⟩)):=by rw[mf.cell (p:=⟨N1,0,none⟩) Bi];exact uH
  have Cb:w.heap.size<=N2∧N2<w2.heap.size:=⟨aw gO.size GW,GY⟩;have zN:Hid (∀w3 w4 B1 B2 B3 B4,Below w2.heap.size w2 w3->Below w3.heap.size w3 w4->w2.heap.size<=B1∧B1<w3.heap.size->w2.heap.size<=B2∧B2<w3.heap.size->w3.heap.size<=B3∧B3<w4.heap.size->w3.heap.size<=B4∧B4<w4.heap.size->w3.cell? ⟨B1,0,none⟩=some (.pointer (some ⟨q,3,none⟩))->w3.cell? ⟨B2,0,none⟩=some (.func (.func 178) #[] #[])->w4.cell? ⟨B3,0,none⟩=some (.pointer (some ⟨q,4,none⟩))->w4.cell? ⟨B4,0,none⟩=some (.func (.func 179) #[] #[])-> ∀nq,Calls _ _ _ _ _):=fun w3 w4 B1 B2 B3 B4 h3 h4 l1 l2 l3 l4 c1 c2 c3 c4 nq=>HF.out w4 N1 B1 B2 B3 B4 (HB.trans ((h3.trans (h4.mono h3.size)).mono HB.size)) ⟨rW.1,bP rW.2 (aw h3.size h4.size)⟩ ⟨aw HB.size l1.1,bP l1.2 h4.size⟩ ⟨aw HB.size l2.1,bP l2.2 h4.size⟩ ⟨aw HB.size (aw h3.size l3.1),l3.2⟩ ⟨aw HB.size (aw h3.size l4.1),l4.2⟩ (by rw[h4.cell (p:=⟨N1,0,none⟩) (bP rW.2 h3.size),h3.cell (p:=⟨N1,0,none⟩) rW.2];exact xZ) (by rw[h4.cell (p:=⟨B1,0,none⟩) l1.2];exact c1) (by rw[h4.cell (p:=⟨B2,0,none⟩) l2.2];exact c2) c3 c4 nq
  clear HF uG HK hb1 bN gO mf uH xZ zU HB GV Bi GW GY rW Cb;have M2:True:=trivial;go_wp2_with fail;go_region_held3 (fun _=>True) (trivial)
   (first
    |(go_at_call 177;first
      |(clear M2;go_must(refine(HWD.out _ _ _).mono ?_;rintro e w3⟨B1,B2,rfl,b1,b2,b3,b4,mh,d1,d2⟩))
      |(go_must(refine(HWD.out _ _ _).mono ?_;rintro e w4⟨B3,B4,rfl,b5,b6,b7,b8,l9,d3,d4⟩;have HF3:Hid (∀nq,Calls _ _ _ _ _):=zN.out w3 w4 B1 B2 B3 B4 (dQ mh) (by first|exact l9|exact dQ l9) ⟨b1,b2⟩ ⟨b3,b4⟩ ⟨b5,b6⟩ ⟨b7,b8⟩ d1 d2 d3 d4)))
    |(go_at_call 176;go_must(refine(HF3.out 0).mono ?_;rintro e w5⟨rfl,HP⟩)))
  all_goals go_wp2;go_ret;exact⟨rfl,HP.out⟩
end bJ
namespace aL
open Go.RowKit
attribute [local go_sem] ag ar
variable{h:Int}{k:Nat}
def dv(c:UInt8):Int:=if 48<=c.toNat∧c.toNat<=57 then c.toNat-48 else if 97<=c.toNat∧c.toNat<=102 then c.toNat-87 else-1
theorem aai: ∀c:UInt8,Lib.indexByte [48,49,50,51,52,53,54,55,56,57,97,98,99,100,101,102] c=dv c:=by
 have h: ∀n:Fin 256,Lib.indexByte [48,49,50,51,52,53,54,55,56,57,97,98,99,100,101,102] (UInt8.ofNat n.val)=dv (UInt8.ofNat n.val):=by decide+kernel
 intro c;have:=h ⟨c.toNat,c.toNat_lt⟩;simpa using this
theorem Kc(c:UInt8): -1<=dv c∧dv c<=15:=by
 unfold dv;split
 ·omega
 ·split<;>omega
theorem IG(c:UInt8)(w:World):Calls prog 173 #[.string ⟨#[48,49,50,51,52,53,54,55,56,57,97,98,99,100,101,102]⟩, .int .u8 (c.toNat:Int)] w fun e w'=>e= .returned (.int .i64 (dv c))∧w'=w:=by
 refine(Any.strings_IndexByte indexByte ⟨#[48,49,50,51,52,53,54,55,56,57,97,98,99,100,101,102]⟩ (c.toNat:Int) w).mono ?_;rintro e w'⟨rfl,rfl⟩;refine⟨?_,rfl⟩;have e1:((c.toNat:Int).toNat).toUInt8=c:=by simp
 rw[e1];exact congrArg (fun x=>Ending.returned (.int .i64 x)) (aai c)
def part(l:List UInt8)(j:Nat):Int:=16*dv (l[2*j]?.getD 0)+dv (l[2*j+1]?.getD 0)
def partAt(l:List UInt8)(k j:Nat):Int:=if j<k then part l j else 0
def gM(l:List UInt8):Prop:= ∀i,i<8->0<=dv (l[i]?.getD 0)
def vK(l:List UInt8)(w:World)(e:Ending)(w':World):Prop:=
 ((gM l∧e= .returned (.tuple #[.agg #[.int .u8 (part l 0), .int .u8 (part l 1), .int .u8 (part l 2), .int .u8 (part l 3)], .bool true]))∨
  (¬gM l∧e= .returned (.tuple #[.agg #[.int .u8 0, .int .u8 0, .int .u8 0, .int .u8 0], .bool false])))∧Below w.heap.size w w'
theorem ac6: ∀h l:Fin 16,bits .or .i64 ((h.val:Int)*16) (l.val:Int) %256=16*(h.val:Int)+(l.val:Int):=by decide+kernel
theorem xE{l:Int}(hh:0<=h∧h<=15)(hl:0<=l∧l<=15):bits .or .i64 (h*16) l %256=16*h+l:=by have:=ac6 ⟨h.toNat,by omega⟩ ⟨l.toNat,by omega⟩;simp only[Int.toNat_of_nonneg hh.1,Int.toNat_of_nonneg hl.1]at this;exact this
theorem uf{l:List UInt8}{v:Int}(hh:dv (l[2*k]?.getD 0)=h)(hl:dv (l[2*k+1]?.getD 0)=v):16*h+v=partAt l (k+1) k:=by rw[partAt,if_pos (Nat.lt_succ_self k),part,hh,hl]
theorem fX(l:List UInt8){j:Nat}(h:j≠k):partAt l k j=partAt l (k+1) j:=by
 unfold partAt;by_cases h':j<k
 ·rw[if_pos h',if_pos (by omega)]
 ·rw[if_neg h',if_neg (by omega)]
theorem byte_at(s:ByteArray)(i:Nat)(h:i<s.size):s.data.toList[i]?.getD 0=s[i]:=by rw[a7 (by simpa using h)];rfl
theorem FC(s:ByteArray)(w:World)(hs:s.size=8):Calls prog 132 #[.string s] w (vK s.data.toList w):=by
 have rz:Hid (∀c w,Calls prog 173 #[.string ⟨#[48,49,50,51,52,53,54,55,56,57,97,98,99,100,101,102]⟩, .int .u8 (UInt8.toNat c:Int)] w fun e w'=>e= .returned (.int .i64 (dv c))∧w'=w):=IG;have iA:((s.size:Int) !=8)=false:=by rw[hs];rfl
 go_enter func132,ntmps132;go_wp2;go_loopw [12] (fun i wr=> ∃k:Nat,k<=4∧i= .int .i64 k∧Hid (∀i,i<2*k->0<=dv (s.data.toList[i]?.getD 0))∧wr=((w.alloc (.cells #[.int .u8 0, .int .u8 0, .int .u8 0, .int .u8 0] 143)).alloc (.cells #[.int .u8 (partAt s.data.toList k 0), .int .u8 (partAt s.data.toList k 1), .int .u8 (partAt s.data.toList k 2), .int .u8 (partAt s.data.toList k 3)] 143))) (fun i _=>4-(intOf i).toNat)
 case atStart=>exact⟨0,aJ _,rfl,(by intro i hi;omega),rfl⟩
 case round=>
  obtain⟨k,hk,rfl,HD,rfl⟩:=hrel;by_cases ay:k<4
  ·obtain⟨h,hh⟩: ∃h,dv (s.data.toList[2*k]?.getD 0)=h:=⟨_,rfl⟩;obtain⟨l,hl⟩: ∃l,dv (s.data.toList[2*k+1]?.getD 0)=l:=⟨_,rfl⟩;have hhb:=Kc (s.data.toList[2*k]?.getD 0);have hlb:=Kc (s.data.toList[2*k+1]?.getD 0);rw[hh]at hhb;rw[hl]at hlb;have JU:Hid (∀w,Calls prog 173 #[.string ⟨#[48,49,50,51,52,53,54,55,56,57,97,98,99,100,101,102]⟩, .int .u8 (s[2*k].toNat:Int)] w fun e w'=>e= .returned (.int .i64 h)∧w'=w):=fun w=>by rw[<-hh,<-byte_at s (2*k) (by omega)];exact rz.out _ w
   have wJ:Hid (∀w,Calls prog 173 #[.string ⟨#[48,49,50,51,52,53,54,55,56,57,97,98,99,100,101,102]⟩, .int .u8 (s[2*k+1].toNat:Int)] w fun e w'=>e= .returned (.int .i64 l)∧w'=w):=fun w=>by rw[<-hl,<-byte_at s (2*k+1) (by omega)];exact rz.out _ w
   have HH:Hid (dv (s.data.toList[2*k]?.getD 0)=h):=hh;have HL:Hid (dv (s.data.toList[2*k+1]?.getD 0)=l):=hl;clear hh hl rz;by_cases h0:h<0
   ·have jr:Hid (¬gM s.data.toList):=fun hd=>by have:=hd (2*k) (by omega);rw[HH.out]at this;omega
    go_wp2_with fail;refine(JU.out _).mono ?_;rintro e w1⟨rfl,rfl⟩;go_wp2_with fail;refine(wJ.out _).mono ?_;rintro e w1⟨rfl,rfl⟩;go_wp2;refine bodyPost_ret (v:= .tuple #[.agg #[.int .u8 0, .int .u8 0, .int .u8 0, .int .u8 0], .bool false]) (by simp[results,results132,go_sem]) rfl ⟨Or.inr ⟨jr.out,rfl⟩, ?_⟩;exact(((ah _ _).alloc (ae _) _).alloc (by simp) _)
   have h0d:decide (h<0)=false:=by simp;omega
   by_cases l0:l<0
   ·have jr:Hid (¬gM s.data.toList):=fun hd=>by have:=hd (2*k+1) (by omega);rw[HL.out]at this;omega
    go_wp2_with fail;refine(JU.out _).mono ?_;rintro e w1⟨rfl,rfl⟩;go_wp2_with fail;refine(wJ.out _).mono ?_;rintro e w1⟨rfl,rfl⟩;go_wp2;refine bodyPost_ret (v:= .tuple #[.agg #[.int .u8 0, .int .u8 0, .int .u8 0, .int .u8 0], .bool false]) (by simp[results,results132,go_sem]) rfl ⟨Or.inr ⟨jr.out,rfl⟩, ?_⟩;exact(((ah _ _).alloc (ae _) _).alloc (by simp) _)
   have l0d:decide (l<0)=false:=by simp;omega
   have Ss:Hid (∀i,i<2*(k+1)->0<=dv (s.data.toList[i]?.getD 0)):=fun i hi=>by
    rcases Nat.lt_or_ge i (2*k)with h'|h'
    ·exact HD.out i h'
    ·rcases Nat.lt_or_ge i (2*k+1)with h''|h''
     ·obtain rfl:i=2*k:=by omega
      rw[HH.out];omega
     ·obtain rfl:i=2*k+1:=by omega
      rw[HL.out];omega
   clear HD;go_wp2_with fail;refine(JU.out _).mono ?_;rintro e w1⟨rfl,rfl⟩;go_wp2_with fail;refine(wJ.out _).mono ?_;rintro e w1⟨rfl,rfl⟩;have vS:k=0∨k=1∨k=2∨k=3:=by omega
   rcases vS with rfl|rfl|rfl|rfl
   ·go_wp2;refine⟨⟨1,by omega,rfl,Ss, ?_⟩,by simp[intOf]⟩;rw[xE (by omega) (by omega),uf HH.out HL.out,fX s.data.toList (k:=0) (j:=1) (by decide),fX s.data.toList (k:=0) (j:=2) (by decide),fX s.data.toList (k:=0) (j:=3) (by decide)]
   ·go_wp2;refine⟨⟨2,by omega,rfl,Ss, ?_⟩,by simp[intOf]⟩;rw[xE (by omega) (by omega),uf HH.out HL.out,fX s.data.toList (k:=1) (j:=0) (by decide),fX s.data.toList (k:=1) (j:=2) (by decide),fX s.data.toList (k:=1) (j:=3) (by decide)]
   ·go_wp2;refine⟨⟨3,by omega,rfl,Ss, ?_⟩,by simp[intOf]⟩;rw[xE (by omega) (by omega),uf HH.out HL.out,fX s.data.toList (k:=2) (j:=0) (by decide),fX s.data.toList (k:=2) (j:=1) (by decide),fX s.data.toList (k:=2) (j:=3) (by decide)]
   ·go_wp2;refine⟨⟨4,by omega,rfl,Ss, ?_⟩,by simp[intOf]⟩;rw[xE (by omega) (by omega),uf HH.out HL.out,fX s.data.toList (k:=3) (j:=0) (by decide),fX s.data.toList (k:=3) (j:=1) (by decide),fX s.data.toList (k:=3) (j:=2) (by decide)]
  ·obtain rfl:k=4:=by omega
   have GI:Hid (gM s.data.toList):=fun i hi=>HD.out i (by omega);go_wp2;refine bodyPost_ret (v:= .tuple #[.agg #[.int .u8 (partAt s.data.toList 4 0), .int .u8 (partAt s.data.toList 4 1), .int .u8 (partAt s.data.toList 4 2), .int .u8 (partAt s.data.toList 4 3)], .bool true]) (by simp[results,results132,go_sem]) rfl ⟨Or.inl ⟨GI.out,rfl⟩, ?_⟩;exact(((ah _ _).alloc (ae _) _).alloc (by simp) _)
end aL
namespace aL
open Go.RowKit bJ
attribute [local go_sem] ag ar
variable{l:List UInt8}{w:World}
theorem VL: ∀c:UInt8,0<=dv c->dg (dv c)=c:=by
 have h: ∀n:Fin 256,0<=dv (UInt8.ofNat n.val)->dg (dv (UInt8.ofNat n.val))=UInt8.ofNat n.val:=by decide+kernel
 intro c;have:=h ⟨c.toNat,c.toNat_lt⟩;simpa using this
theorem vO(n:Int)(h0:0<=n)(h1:n<=15):dv (dg n)=n:=by
 have h: ∀n:Fin 16,dv (dg (n.val:Int))=(n.val:Int):=by decide+kernel
 have:=h ⟨n.toNat,by omega⟩;simpa[Int.toNat_of_nonneg h0]using this
theorem uB(hd:gM l){j:Nat}(hj:j<4):two (part l j)= [l[2*j]?.getD 0,l[2*j+1]?.getD 0]:=by
 have h1:=hd (2*j) (by omega);have h2:=hd (2*j+1) (by omega);have b1:=Kc (l[2*j]?.getD 0);have b2:=Kc (l[2*j+1]?.getD 0);have e1:part l j/16=dv (l[2*j]?.getD 0):=by unfold part;omega
 have e2:part l j %16=dv (l[2*j+1]?.getD 0):=by unfold part;omega
 unfold two;rw[e1,e2,VL _ h1,VL _ h2]
theorem eight(h:l.length=8):l= [l[0]?.getD 0,l[1]?.getD 0,l[2]?.getD 0,l[3]?.getD 0,l[4]?.getD 0,l[5]?.getD 0,l[6]?.getD 0,l[7]?.getD 0]:=by
 match l,h with
 | [a,b,c,d,e,f,g,i],_=>rfl
theorem Rw{t:List UInt8}(h:l.length=8):l=hex t↔gM l∧part l 0=sm t t.length 0∧part l 1=sm t t.length 1∧part l 2=sm t t.length 2∧part l 3=sm t t.length 3:=by
 constructor
 ·intro e;subst e;have b0:=gW t t.length 0;have b1:=gW t t.length 1;have b2:=gW t t.length 2;have b3:=gW t t.length 3;have d0:=vO (sm t t.length 0/16) (by omega) (by omega);have d1:=vO (sm t t.length 0 %16) (by omega) (by omega);have d2:=vO (sm t t.length 1/16) (by omega) (by omega);have d3:=vO (sm t t.length 1 %16) (by omega) (by omega);have d4:=vO (sm t t.length 2/16) (by omega) (by omega);have d5:=vO (sm t t.length 2 %16) (by omega) (by omega);have d6:=vO (sm t t.length 3/16) (by omega) (by omega);have d7:=vO (sm t t.length 3 %16) (by omega) (by omega);refine⟨fun i hi=> ?_, ?_, ?_, ?_, ?_⟩
  ·match i,hi with
   |0,_=>show 0<=dv (dg (sm t t.length 0/16));omega
   |1,_=>show 0<=dv (dg (sm t t.length 0 %16));omega
   |2,_=>show 0<=dv (dg (sm t t.length 1/16));omega
   |3,_=>show 0<=dv (dg (sm t t.length 1 %16));omega
   |4,_=>show 0<=dv (dg (sm t t.length 2/16));omega
   |5,_=>show 0<=dv (dg (sm t t.length 2 %16));omega
   |6,_=>show 0<=dv (dg (sm t t.length 3/16));omega
   |7,_=>show 0<=dv (dg (sm t t.length 3 %16));omega
  ·show 16*dv (dg (sm t t.length 0/16))+dv (dg (sm t t.length 0 %16))=_;omega
  ·show 16*dv (dg (sm t t.length 1/16))+dv (dg (sm t t.length 1 %16))=_;omega
  ·show 16*dv (dg (sm t t.length 2/16))+dv (dg (sm t t.length 2 %16))=_;omega
  ·show 16*dv (dg (sm t t.length 3/16))+dv (dg (sm t t.length 3 %16))=_;omega
 ·rintro⟨hd,h0,h1,h2,h3⟩;unfold hex;rw[<-h0,<-h1,<-h2,<-h3,uB hd (by omega),uB hd (by omega),uB hd (by omega),uB hd (by omega)];exact eight h
theorem EP{n:Nat}(h:l.length=n+9):line (l.take n)=l↔l[n]?=some 32∧l.drop (n+1)=hex (l.take n):=by
 have hn:n<l.length:=by omega
 have e:l=l.take n++(l[n]::l.drop (n+1)):=by rw[<-List.drop_eq_getElem_cons hn,List.take_append_drop]
 have el:(l.take n).length=n:=by simp;omega
 constructor
 ·intro hl;have h2:l.take n++([32]++hex (l.take n))=l.take n++(l[n]::l.drop (n+1)):=by
   rw[<-e];unfold line at hl;rw[List.append_assoc]at hl;exact hl
  have h3:=List.append_cancel_left h2;simp only[List.cons_append,List.nil_append,List.cons.injEq]at h3;exact⟨by rw[a7 hn,<-h3.1],h3.2.symm⟩
 ·rintro⟨h1,h2⟩;rw[a7 hn]at h1;have h1':=Option.some.inj h1;unfold line;rw[<-h2,List.append_assoc]
  conv=>rhs;rw[e,h1']
  rfl
theorem O5(s:ByteArray)(n:Nat):(s.extract n s.size).data.toList=s.data.toList.drop n:=by
 have e:s.size-n=(s.data.toList.drop n).length:=by simp
 simp only[ByteArray.data_extract,Array.toList_extract,List.extract_eq_take_drop];rw[e,List.take_length]
theorem aan(a b c d e f g h:Int)(w:World):(Op.equalIn 10000 143 (.agg #[.int .u8 a, .int .u8 b, .int .u8 c, .int .u8 d]) (.agg #[.int .u8 e, .int .u8 f, .int .u8 g, .int .u8 h])).run prog w= .ok (a==e &&(b==f &&(c==g &&d==h))) w:=by have u3:=underlying5;have a3:=isAgg5;have z3:=sizeOf5;rw[show(10000:Nat)=9999+1 from rfl,Op.equalIn];simp only[Sem.run_bind,run_underlying underlying143,Result.andThen_ok];simp only[Std.Legacy.Range.forIn_eq_forIn_range',Std.Legacy.Range.size,Nat.sub_zero,Nat.add_sub_cancel,Nat.div_one,List.range'_succ,List.range'_zero,List.forIn_cons,List.forIn_nil];go_simp;by_cases h1:a=e<;>by_cases h2:b=f<;>by_cases h3:c=g<;>by_cases h4:d=h<;>simp[h1,h2,h3,h4]
attribute [local go_sem] aan
theorem Vc{w1:World}(hb:Below w.heap.size w w1)(p0 p1 p2 p3:Int): ∃w3,w1.alloc (.cells #[.int .u8 p0, .int .u8 p1, .int .u8 p2, .int .u8 p3] 143)=w3∧Below w.heap.size w w3∧w1.heap.size<w3.heap.size∧w3.cell? ⟨w1.heap.size,0,none⟩=some (.int .u8 p0)∧w3.cell? ⟨w1.heap.size,1,none⟩=some (.int .u8 p1)∧w3.cell? ⟨w1.heap.size,2,none⟩=some (.int .u8 p2)∧w3.cell? ⟨w1.heap.size,3,none⟩=some (.int .u8 p3):=by refine⟨_,rfl,hb.alloc hb.size _,by simp, ?_⟩;have h:=heap_alloc_new w1 (.cells #[.int .u8 p0, .int .u8 p1, .int .u8 p2, .int .u8 p3] 143);simp only[World.cell?,h];simp
theorem Rt{w':World}{b:Nat}{v0 v1 v2 v3:Value}(hb:Below w.heap.size w w')(ay:b<w.heap.size)(h0:w.cell? ⟨b,0,none⟩=some v0)(h1:w.cell? ⟨b,1,none⟩=some v1)(h2:w.cell? ⟨b,2,none⟩=some v2)(h3:w.cell? ⟨b,3,none⟩=some v3):w'.cell? ⟨b,0,none⟩=some v0∧w'.cell? ⟨b,1,none⟩=some v1∧w'.cell? ⟨b,2,none⟩=some v2∧w'.cell? ⟨b,3,none⟩=some v3:=
 ⟨by rw[hb.cell (p:=⟨b,0,none⟩) ay];exact h0,by rw[hb.cell (p:=⟨b,1,none⟩) ay];exact h1,by rw[hb.cell (p:=⟨b,2,none⟩) ay];exact h2,by rw[hb.cell (p:=⟨b,3,none⟩) ay];exact h3⟩
theorem MP(s:ByteArray)(w:World)(hs:s.size<=4194304):Calls prog 87 #[.string s] w fun e w'=>e= .returned (.tuple #[.string ⟨(dm s.data.toList).toArray⟩, .bool (fF s.data.toList)])∧Below w.heap.size w w':=by
 have e0:s.data.toList.length=s.size:=by simp
 by_cases h80:80<s.size
 ·have HF:Hid (dm s.data.toList= []∧fF s.data.toList=false):=kX (by omega);clear e0;go_enter func87,ntmps87;go_wp2
  go_ret2
  exact⟨jf HF.out,ah _ _⟩
 have acr:decide (80<(s.size:Int))=false:=by simp;omega
 by_cases h9:s.size<9
 ·have HF:Hid (dm s.data.toList= []∧fF s.data.toList=false):=kX (by omega);clear e0;go_enter func87,ntmps87;go_wp2
  go_ret2
  exact⟨jf HF.out,ah _ _⟩
 obtain⟨n,hn⟩: ∃n,s.size=n+9:=⟨s.size-9,by omega⟩;have hd9:decide ((s.size:Int)-9<0)=false:=by simp;omega
 have KD:(s.size:Int)-9=(n:Int):=by omega
 have hnl:n<s.size:=by omega
 have Al:s.data.toList.length-9=n:=by omega
 have Af:s.data.toList.length=n+9:=by omega
 have px:s.data.toList[n]?=some s[n]:=by rw[a7 (by omega)];rfl
 by_cases hb:s[n]=32
 ·have iI:((s[n].toNat:Int) !=32)=false:=by rw[hb];rfl
  obtain⟨t,ht⟩: ∃t,s.extract 0 n=t:=⟨_,rfl⟩;obtain⟨u,hu⟩: ∃u,s.extract (n+1) s.size=u:=⟨_,rfl⟩;have X9:t.data.toList=s.data.toList.take n:=by rw[<-ht,nz s n]
  have hul:u.data.toList=s.data.toList.drop (n+1):=by rw[<-hu];exact O5 s (n+1)
  have hts:t.size=n:=by rw[<-ht];simp;omega
  have hus:u.size=8:=by rw[<-hu];simp;omega
  have VZ:u.data.toList.length=8:=by simp[hus]
  have We:t.data.toList.length=t.size:=by simp
  have XL:=EP Af;rw[<-hul,<-X9,Rw VZ,We]at XL;have VW:line t.data.toList=s.data.toList↔gM u.data.toList∧part u.data.toList 0=sm t.data.toList t.size 0∧part u.data.toList 1=sm t.data.toList t.size 1∧part u.data.toList 2=sm t.data.toList t.size 2∧part u.data.toList 3=sm t.data.toList t.size 3:=XL.trans ⟨fun h=>h.2,fun h=>⟨by rw[px,hb],h⟩⟩;have jr:Hid (¬(line t.data.toList=s.data.toList)->dm s.data.toList= []∧fF s.data.toList=false):=fun h=>kX (by rw[Al,<-X9];exact fun h'=>h h'.2.2);have ot:Hid (line t.data.toList=s.data.toList->dm s.data.toList=t.data.toList∧fF s.data.toList=true):=fun h=>by have:=Fb (l:=s.data.toList) ⟨by omega,by omega,by rw[Al,<-X9];exact h⟩;rw[Al,<-X9]at this;exact this
  have K8:Hid (line t.data.toList=s.data.toList↔gM u.data.toList∧part u.data.toList 0=sm t.data.toList t.size 0∧part u.data.toList 1=sm t.data.toList t.size 1∧part u.data.toList 2=sm t.data.toList t.size 2∧part u.data.toList 3=sm t.data.toList t.size 3):=VW;have HT:Hid (s.extract 0 n=t):=ht;have HU:Hid (s.extract (n+1) s.size=u):=hu;have HRS:Hid (∀w,Calls prog 132 #[.string u] w (vK u.data.toList w)):=fun w=>FC u w hus;have HSO:Hid (∀w,Calls prog 84 #[.string t] w fun e w'=>e= .returned (.agg #[.int .u8 (sm t.data.toList t.size 0), .int .u8 (sm t.data.toList t.size 1), .int .u8 (sm t.data.toList t.size 2), .int .u8 (sm t.data.toList t.size 3)])∧Below w.heap.size w w'):=fun w=>Bt t w (by omega);clear XL VW ht hu X9 hul Al Af VZ We e0 px;go_enter func87,ntmps87;go_wp2_with fail;rw[<-hn,HU.out];refine(HRS.out _).mono ?_;rintro e w1⟨aaE,hb1⟩;have dN:=hb1.size;rcases aaE with⟨hd,rfl⟩|⟨hd,rfl⟩
  ·generalize part u.data.toList 0=p0 at*;generalize part u.data.toList 1=p1 at*;generalize part u.data.toList 2=p2 at*;generalize part u.data.toList 3=p3 at*;generalize sm t.data.toList t.size 0=q0 at*;generalize sm t.data.toList t.size 1=q1 at*;generalize sm t.data.toList t.size 2=q2 at*;generalize sm t.data.toList t.size 3=q3 at*;have HD:Hid (gM u.data.toList):=hd;clear hd;go_wp2_with fail;rw[HT.out];obtain⟨w3,rU,iH,acG,c0,c1,c2,c3⟩:=Vc hb1 p0 p1 p2 p3;rw[rU];clear rU hb1 dN;go_region_held3 (fun w'=>w'.cell? ⟨w1.heap.size,0,none⟩=some (.int .u8 p0)∧w'.cell? ⟨w1.heap.size,1,none⟩=some (.int .u8 p1)∧w'.cell? ⟨w1.heap.size,2,none⟩=some (.int .u8 p2)∧w'.cell? ⟨w1.heap.size,3,none⟩=some (.int .u8 p3)) (go_keep)
    (first|(go_at_call 84;refine(HSO.out _).mono ?_;rintro e w2⟨rfl,bN⟩;obtain⟨k0,k1,k2,k3⟩:=Rt bN acG c0 c1 c2 c3))
   all_goals
    have hB2:Below w.heap.size w w2:=iH.drew.trans (bN.mono iH.size);generalize hc:(!(p0==q0)||(!(p1==q1)||(!(p2==q2)|| !(p3==q3))))=bb;have HC:Hid (bb=false↔p0=q0∧p1=q1∧p2=q2∧p3=q3):=by show(_↔_);rw[<-hc];simp
    clear hc HSO HRS k0 k1 k2 k3 c0 c1 c2 c3 bN;cases bb
    ·have HF:=ot.out (K8.out.2 ⟨HD.out,HC.out.1 rfl⟩);have HE:Hid (Ending.returned (.tuple #[.string t, .bool true])= .returned (.tuple #[.string ⟨(dm s.data.toList).toArray⟩, .bool (fF s.data.toList)])):=by show _=_;rw[HF.1,HF.2]
     clear HF HC K8 ot jr;go_wp2
     go_ret2
     exact⟨HE.out,hB2⟩
    ·have HF:Hid (dm s.data.toList= []∧fF s.data.toList=false):=jr.out (fun h=>by have:=HC.out.2 (K8.out.1 h).2;cases this);clear HC K8 ot jr;go_wp2
     go_ret2
     exact⟨jf HF.out,hB2⟩
  ·have HF:Hid (dm s.data.toList= []∧fF s.data.toList=false):=jr.out (fun h=>hd (K8.out.1 h).1);clear K8 ot jr hd;go_wp2_with fail;rw[HT.out]
   go_quiet (fail)
   go_wp2
   go_ret2
   exact⟨jf HF.out,Below.ym (hb1.alloc dN _) _⟩
 ·have iI:((s[n].toNat:Int) !=32)=true:=by
   rw[bne_iff_ne];intro h;apply hb;apply UInt8.toNat.inj;show s[n].toNat=32;omega
  have HF:Hid (dm s.data.toList= []∧fF s.data.toList=false):=kX (fun h=>by have h2:=h.2.2;rw[Al,EP Af,px]at h2;exact hb (Option.some.inj h2.1))
  clear e0 Al Af px hb;go_enter func87,ntmps87;go_wp2
  go_ret2
  exact⟨jf HF.out,ah _ _⟩
end aL
namespace Lw
open Go.RowKit aM Mc Mr fA bJ
attribute [local go_sem] aL.ag aL.ar
variable{base:Nat}{dz:World}
theorem E8{w w1:World}{v0 v1 v2 v3 v4 v5 v6 v7 v8:Value}(hb:Below (w.alloc (.cells #[v0,v1,v2,v3,v4,v5,v6,v7,v8] 73)).heap.size (w.alloc (.cells #[v0,v1,v2,v3,v4,v5,v6,v7,v8] 73)) w1):w1.cell? ⟨w.heap.size,0,none⟩=some v0∧w1.cell? ⟨w.heap.size,3,none⟩=some v3∧w1.cell? ⟨w.heap.size,4,none⟩=some v4∧w1.cell? ⟨w.heap.size,5,none⟩=some v5∧w1.cell? ⟨w.heap.size,6,none⟩=some v6∧w1.cell? ⟨w.heap.size,7,none⟩=some v7∧w1.cell? ⟨w.heap.size,8,none⟩=some v8:=by
 have h:w1.heap[w.heap.size]?=some (.cells #[v0,v1,v2,v3,v4,v5,v6,v7,v8] 73 (0,0)):=by rw[hb.block _ (by simp only[World.size_alloc];omega)];exact heap_alloc_new w _
 exact⟨bg h,bg h,bg h,bg h,bg h,bg h,bg h⟩
theorem FV(P:uO base dz)(wp n:Nat)(aO:List Pr)(hs:List (Value×Nat))(x:fU)(w:World)(F:Ft)(hp:Pre P wp n aO hs w F)(hn:n+x.s.size+1<=1048576)(hx:x.k=1)(h1:I64 x.le)(h2:I64 x.re)(h3:I64 x.ca)(h4:I64 x.bo)(h5:I64 x.he):Calls prog 37 #[.pointer (some ⟨wp,0,none⟩), .agg x.cs] w (gu P wp (n+x.s.size+1)):=by
 obtain⟨i0,hi,gI,dN,fS⟩:=info_parts Yj;obtain⟨k,a,b,le,re,ca,bo,he,s⟩:=x;simp only at hx hn h1 h2 h3 h4 h5⊢;subst hx;simp only[fU.cs]at*;have HP:=hide hp;obtain⟨ds,ls,ao,cp,hds,az,cP,hFw,_,_⟩:=hp.open;have Ej:wp<w.heap.size:=(cT.1 cP).1;have PQ:=hp.np;have HN:Hid (∀w',Below w.heap.size w w'->Calls prog 35 #[.agg #[.int .i64 le, .int .i64 re, .int .i64 ca, .int .i64 bo, .int .i64 he]] w' fun e dV=>
   ((⟨le,re,ca,bo,he⟩:uF).fine=false∧e= .returned (.tuple #[.pointer none, .int .i64 1])∧Below w'.heap.size w' dV)∨
   ((⟨le,re,ca,bo,he⟩:uF).fine=true∧ ∃x,e= .returned (.tuple #[.pointer (some ⟨x,0,none⟩), .int .i64 0])∧Goes (P.A x (St.init ⟨le,re,ca,bo,he⟩)) w' (fun _=>False) dV)):=fun w' hb=>
  P.new ⟨le,re,ca,bo,he⟩ w' (aw hp.big hb.size) (hp.old.trans (hb.mono hp.big)) h1 h2 h3 h4 h5
 have HM:Hid (∀w',Calls prog 57 #[.agg #[.int .i64 le, .int .i64 re, .int .i64 ca, .int .i64 bo, .int .i64 he]] w' (WX ⟨le,re,ca,bo,he⟩ w')):=fun w'=>new_any ⟨le,re,ca,bo,he⟩ w';have HGS:=hide (Mc.Good.start (c:=⟨le,re,ca,bo,he⟩));have HO:=hide az;have HDS:=hide hds;have GG:=hide hp.good;clear hp az cP hds h1 h2 h3 h4 h5;generalize(⟨le,re,ca,bo,he⟩:uF)=cf at*;go_enter func37,ntmps37;go_wp2_with fail;refine(HN.out _ ((ah _ _).alloc (ae _) _)).mono ?_;rintro e w1(⟨hf,rfl,hb1⟩|⟨hf,x,rfl,hgx⟩)
 ·obtain⟨e0,e3,e4,e5,e6,e7,_⟩:=E8 hb1;have hB1:Below w.heap.size w w1:=((ah _ _).alloc (ae _) _).trans (hb1.mono (by simp));have HF:=hide hf;clear hf hb1 HN;go_wp2_with fail;refine(HM.out _).mono ?_;rintro e w2(⟨_,rfl,bN⟩|⟨A9,_⟩)
  ·have HX:=hide (HP.out.same (n':=n+s.size+1) (hB1.trans (bN.mono hB1.size)) (by omega));clear bN hB1;go_wp2;go_ret;exact HX.out
  ·rw[HF.out]at A9;cases A9
 ·have hb1:=hgx.toBelow;obtain⟨e0,e3,e4,e5,e6,e7,_⟩:=E8 hb1;have HF:=hide hf;have HGX:=hide hgx;clear hf hb1 HN hgx;go_wp2_with fail;refine(HM.out _).mono ?_;rintro e w2(⟨A9,_⟩|⟨_,m,rfl,hgm⟩)
  ·rw[HF.out]at A9;cases A9
  have hg0:=((((Goes.refl HO.out).dt _).fresh HGX.out).fresh hgm).eq (show _=aa (rowA 121 2 ds aO.length (flat vA aO)) (aa (nc wp ds ls) (aa (aa (P.A x (St.init cf)) (aU m (St.init cf))) (aa (all (fun q=>aa (P.A q.x q.s) (aU q.m q.s)) aO) (lsA ls hs))))by unfold jl VN;ac_rfl);obtain⟨G,R,hG,hR,_,_,hd⟩:=hg0.pieces;obtain⟨cP,hRp⟩:=dC (show(aa (blk wp _) _).holds w2 R from hR);have c0:w2.cell? ⟨wp,0,none⟩=some (.slice ao aO.length cp):=by rw[bg cP,<-HDS.out];rfl
  have f0:w2.frozen? ⟨wp,0,none⟩=false:=oz cP;have Iu:wp<w2.heap.size:=(cT.1 cP).1;have hnG: ¬G wp:=fun h=>hd wp h hRp;have VC:=hide hnG;have zF:(rowA 121 2 (.slice ao aO.length cp) aO.length (flat vA aO)).holds w2 G:=by rw[<-HDS.out];exact hG
  have HG:=hide zF;have wK:=hide hg0;clear hg0 hG hR hd cP hnG zF hgm HGX HO;go_wp2_with (at_builtin;go_must(refine aC _ rfl _ _ 75 rfl 121 i0 (.agg #[.pointer none, .pointer none]) 2 16 underlying75 hi gI dN fS rfl (by decide) (F:=G) _ aO.length (flat vA aO) rfl (au HG.out ((ah _ _).alloc (ae _) _)) ⟨w2.heap.size,0,none⟩ 1 1 [.pointer (some ⟨x,0,none⟩), .pointer (some ⟨m,0,none⟩)] rfl rfl (World.news_of_block (cs:= #[.pointer (some ⟨x,0,none⟩), .pointer (some ⟨m,0,none⟩)]) (t:=121) (fr:=(0,0)) (heap_alloc_new w2 _)) (by simp[Value.oneCell']) (by unfold maxLen;omega) (by omega) ?main))
  case main=>
   intro dP eQ w3 bK;have Sk:wp<(w2.alloc (.cells #[.pointer (some ⟨x,0,none⟩), .pointer (some ⟨m,0,none⟩)] 121)).heap.size:=by simp;omega
   have c3:w3.cell? ⟨wp,0,none⟩=some (.slice ao aO.length cp):=by rw[bK.only.cell (p:=⟨wp,0,none⟩) Sk VC.out,((ah w2.heap.size w2).alloc (ae _) _).cell (p:=⟨wp,0,none⟩) Iu];exact c0
   have f3:w3.frozen? ⟨wp,0,none⟩=false:=by rw[bK.only.frozen (p:=⟨wp,0,none⟩) Sk VC.out,((ah w2.heap.size w2).alloc (ae _) _).frozen (p:=⟨wp,0,none⟩) Iu];exact f0
   have HX:Hid (gu P wp (n+s.size+1) (.returned (.bool true)) (w3.setCell ⟨wp,0,none⟩ (.slice dP (aO.length+1) eQ))):=by
    have h3:=(wK.out.dt (.cells #[.pointer (some ⟨x,0,none⟩), .pointer (some ⟨m,0,none⟩)] 121)).part (cZ _ _ _ _ _) (by rw[HDS.out];exact au HG.out ((ah _ _).alloc (ae _) _)) bK;have h4:=(h3.eq (show _=aa (blk wp (.cells #[ds,ls, .bool false] 78 (0,0))) (aa (rowA 121 2 (.slice dP (aO.length+1) eQ) (aO.length+1) (flat vA aO++ [.pointer (some ⟨x,0,none⟩), .pointer (some ⟨m,0,none⟩)])) (aa (aa (P.A x (St.init cf)) (aU m (St.init cf))) (aa (all (fun q=>aa (P.A q.x q.s) (aU q.m q.s)) aO) (lsA ls hs))))by unfold nc;ac_rfl)).store 0 (.slice dP (aO.length+1) eQ);have h5:Goes (AE P wp (aO++ [⟨x,m,St.init cf⟩]) hs) w F (w3.setCell ⟨wp,0,none⟩ (.slice dP (aO.length+1) eQ)):=Goes.ex (.slice dP (aO.length+1) eQ) (Goes.ex ls (h4.eq (by
     unfold jl VN;rw[all_append,oy,aN,dL];show aa (nc wp (.slice dP (aO.length+1) eQ) ls) _=aa (nc wp (.slice dP (aO.length+1) eQ) ls) (aa (aa (rowA 121 2 (.slice dP (aO.length+1) eQ) (aO.length+1) (flat vA aO++ [.pointer (some ⟨x,0,none⟩), .pointer (some ⟨m,0,none⟩)])) (aa (all (fun q=>aa (P.A q.x q.s) (aU q.m q.s)) aO) (aa (P.A x (St.init cf)) (aU m (St.init cf))))) (lsA ls hs))
     ac_rfl)))
    refine⟨rfl,HP.out.next h5 (by omega) (fun q hq=> ?_) (by simp) (by omega)⟩;rcases List.mem_append.1 hq with hq|hq
    ·exact(GG.out q hq).le (by omega)
    ·obtain rfl:=cY.1 hq;exact(HGS.out HF.out).le (by omega)
   clear bK wK HG;go_wp2;go_ret;exact HX.out
theorem CJ(P:uO base dz)(wp n:Nat)(aO:List Pr)(hs:List (Value×Nat))(x:fU)(w:World)(F:Ft)(hp:Pre P wp n aO hs w F)(hn:n+x.s.size+1<=1048576)(hx:x.k=2):Calls prog 37 #[.pointer (some ⟨wp,0,none⟩), .agg x.cs] w (gu P wp (n+x.s.size+1)):=by
 obtain⟨k,a,b,le,re,ca,bo,he,s⟩:=x;simp only at hx hn⊢;subst hx;simp only[fU.cs]at*;obtain⟨w0,nj⟩: ∃w0,w.alloc (.cells #[.int .i64 2, .int .i64 a, .int .i64 b, .int .i64 le, .int .i64 re, .int .i64 ca, .int .i64 bo, .int .i64 he, .string s] 73)=w0:=⟨_,rfl⟩;have iO:Below w.heap.size w w0:=nj▸(ah _ _).alloc (ae _) _;have cP:w0.heap[w.heap.size]?=some (.cells #[.int .i64 2, .int .i64 a, .int .i64 b, .int .i64 le, .int .i64 re, .int .i64 ca, .int .i64 bo, .int .i64 he, .string s] 73 (0,0)):=nj▸heap_alloc_new w _;have gI:w0.heap.size=w.heap.size+1:=by rw[<-nj];simp
 have HK:Hid (∀w',Below w0.heap.size w0 w'->w'.cell? ⟨w.heap.size,8,none⟩=some (.string s)):=fun w' hb=>by rw[hb.cell (p:=⟨w.heap.size,8,none⟩) (show w.heap.size<_ by omega)];exact bg cP
 have HA:Hid (∀w',Below w0.heap.size w0 w'->Calls prog 28 #[.string s] w' fun e dV=>e= .returned (.string ⟨(aL.line s.data.toList).toArray⟩)∧Below w'.heap.size w' dV):=fun w' hb=>by have h1:=iO.trans (hb.mono iO.size);exact P.sums s w' (aw hp.big h1.size) (hp.old.trans (h1.mono hp.big)) (by omega)
 have HB:Hid (∀w',Calls prog 58 #[.string s] w' fun e dV=>e= .returned (.string ⟨(aL.line s.data.toList).toArray⟩)∧Below w'.heap.size w' dV):=fun w'=>aL.lX s w' (by omega);have HSS:Hid (∀w',Below w0.heap.size w0 w'->gu P wp (n+s.size+1) (.returned (.bool true)) w'):=fun w' iI=>hp.same (iO.trans (iI.mono iO.size)) (by omega);have b0:w0.cell? ⟨w.heap.size,0,none⟩=some (.int .i64 2):=bg cP;have b8:w0.cell? ⟨w.heap.size,8,none⟩=some (.string s):=bg cP;clear hp cP iO;generalize aL.line s.data.toList=tx at*;go_enter func37,ntmps37;go_wp2_with fail
 try rw[nj]
 clear nj;go_region_held3 (fun w'=>w'.cell? ⟨w.heap.size,8,none⟩=some (.string s)) (go_keep)
  (first
   |(go_at_call 28;refine(HA.out _ (by first|exact(ah _ _).drew|assumption)).mono ?_;rintro e w4⟨rfl,l9⟩;have pI:=bj (wr:=w0) (by first|exact(ah _ _).drew|assumption) l9;have t1:=HK.out _ pI)
   |(go_at_call 58;refine(HB.out _).mono ?_;rintro e w5⟨rfl,uI⟩;have CU:=bj (wr:=w0) (by first|exact(ah _ _).drew|assumption) uI;have t2:=HK.out _ CU))
 all_goals
  first
   |have HX:=hide (HSS.out _ CU)
    go_wp2;go_ret;exact HX.out
   |have HX:=hide (HSS.out _ pI)
    go_wp2;go_ret;exact HX.out
end Lw
namespace Mr
open Go.RowKit aM Mc bJ
variable{s s':St}{id c:Int}{p i:Nat}{w wr w2:World}{F:Ft}{a:At}{m:MV}{g:List (Ln×Value)}
theorem rO{α:Type}{p:α->Bool}: ∀{l:List α},l.any p=true->(dropFirst p l).length+1=l.length
 | [],h=>by simp at h
 |x::l,h=>by
  unfold dropFirst;split
  ·rfl
  ·rename_i hx;have:l.any p=true:=by simpa[hx]using h
   have:=rO this;simp only[List.length_cons];omega
theorem Nf(h:id∈s.ks.map (·.1)):(s.shut id).reqs.length+1=s.reqs.length:=by
 have qc:=St.iE s.af.length s id;have e:(s.shut id).reqs=dropFirst (·.id==id) s.reqs:=by show dropFirst _ (St.stops s.af.length s id).reqs=_;rw[qc.reqs]
 rw[e];refine rO ?_;obtain⟨r,_,hm,hid⟩:=St.cz h;exact List.any_eq_true.2 ⟨r,hm,by simpa using hid⟩
def leastOf(c:Int)(l:List Rq):Option Int:=l.foldl (fun b r=>if r.conn==c &&(match b with|none=>true|some i=>decide (r.id<i))then some r.id else b) none
theorem yS{l:List Rq}{k:Nat}(hk:k<l.length):leastOf c (l.take (k+1))=if(l[k]'hk).conn==c &&(match leastOf c (l.take k)with|none=>true|some i=>decide ((l[k]'hk).id<i))then some (l[k]'hk).id else leastOf c (l.take k):=by unfold leastOf;rw[fp hk,List.foldl_append];rfl
theorem vn{c:Int}{l:List Rq}: ∀(k:Nat),k<=l.length-> ∀i,leastOf c (l.take k)=some i-> ∃r∈l,r.id=i
 |0,_,i,h=>by unfold leastOf at h;simp at h
 |k+1,hk,i,h=>by
  have jU:k<l.length:=by omega
  rw[yS jU]at h;generalize((l[k]'jU).conn==c &&_)=b at h;cases b
  ·exact vn k (by omega) i h
  ·cases h;exact⟨_,aY jU,rfl⟩
theorem EI(h:s.least c=some id):id∈s.ks.map (·.1):=by
 have h':leastOf c (s.reqs.take s.reqs.length)=some id:=by rw[List.take_length];exact h
 obtain⟨r,hr,e⟩:=vn _ (ae _) id h';exact St.lM (i:=id) (t:=r.ten) (aA.2 ⟨r,hr,by rw[e]⟩)
def fB(s:St)(id c:Int):St:=(St.bH s.af.length s 0 id c).shut id
structure Closing(p:Nat)(s:St)(c:Int)(w:World)(F:Ft)(s':St)(wr:World):Prop where
 inv:Inv s'
 bd:Bd 1099511627776 s'
 sz:s'.sz<=s.sz
 goes:Goes (aU p s') w F wr
 rest: ∃f,s'.reqs.length<=f∧St.aQ s.reqs.length s c=St.aQ f s' c
theorem rN(h:s.least c=some id):(fB s id c).reqs.length+1=s.reqs.length:=by have qc:=St.eK s.af.length s 0 id c;unfold fB;rw[Nf (by rw[qc.ks];exact EI h),qc.reqs]
theorem Closing.next(h:Closing p s c w F s' wr)(hi:s'.least c=some id)(hg:Goes (aU p (fB s' id c)) w F w2):Closing p s c w F (fB s' id c) w2:=by
 obtain⟨f,hf,e⟩:=h.rest;have hlen:=rN hi;have qc:=St.eK s'.af.length s' 0 id c;have h2:=St.rf (s:=St.bH s'.af.length s' 0 id c) id;have h3:=St.oW s'.af.length s' 0 id c;refine⟨St.ji (qc.inv h.inv) _,(h.bd.stopped qc).shut _,by have:=h.sz;unfold fB;omega,hg, ?_⟩
 match f,hf,e with
 |0,hf,_=>omega
 |f+1,hf,e=>
  refine⟨f,by omega, ?_⟩;rw[e];conv=>lhs;unfold St.aQ
  rw[hi];rfl
theorem Closing.done(h:Closing p s c w F s' wr)(hi:s'.least c=none):s'=St.aQ s.reqs.length s c:=by
 obtain⟨f,hf,e⟩:=h.rest;rw[e]
 match f with
 |0=>rfl
 |f+1=>unfold St.aQ;rw[hi]
structure fO(p:Nat)(s:St)(id c:Int)(w:World)(F:Ft)(i:Nat)(s':St)(wr:World):Prop where
 st:St.eB s s' id
 sz:s'.sz<=s.sz
 goes:Goes (aU p s') w F wr
 rest: ∃f,s'.af.length<=i+f∧St.bH s.af.length s 0 id c=St.bH f s' i id c
theorem fO.hit(h:fO p s id c w F i s' wr)(ha:s'.af[i]?=some a)(hq:(a.id==id &&a.conn==c)=true)(hg:Goes (aU p (s'.aS i)) w F w2):fO p s id c w F i (s'.aS i) w2:=by
 obtain⟨f,hf,e⟩:=h.rest;have hlen:=St.eH ha;have dM:i<s'.af.length:=(cK.1 ha).1;refine⟨h.st.trans (St.Kg s' id i),aw (St.jT i) h.sz,hg, ?_⟩
 match f,hf,e with
 |0,hf,_=>omega
 |f+1,hf,e=>
  refine⟨f, ?_, ?_⟩
  ·rw[(St.cG (s:=s') i).2.1];omega
  ·rw[e];conv=>lhs;unfold St.bH
   rw[ha];dsimp only;rw[if_pos hq]
theorem fO.miss(h:fO p s id c w F i s' wr)(ha:s'.af[i]?=some a)(hq:(a.id==id &&a.conn==c)=false):fO p s id c w F (i+1) s' wr:=by
 obtain⟨f,hf,e⟩:=h.rest;have dM:i<s'.af.length:=(cK.1 ha).1;refine⟨h.st,h.sz,h.goes, ?_⟩
 match f,hf,e with
 |0,hf,_=>omega
 |f+1,hf,e=>
  refine⟨f,by omega, ?_⟩;rw[e];conv=>lhs;unfold St.bH
  rw[ha];dsimp only;rw[if_neg (by rw[hq];simp)]
theorem fO.done(h:fO p s id c w F i s' wr)(hi:s'.af.length<=i):s'=St.bH s.af.length s 0 id c:=by
 obtain⟨f,hf,e⟩:=h.rest;rw[e]
 match f with
 |0=>rfl
 |f+1=>unfold St.bH;rw[List.getElem?_eq_none hi]
def gC(s:St)(i:Nat)(a:At):St:=(s.aS i).again a.id false
structure Leaving(p:Nat)(s:St)(c:Int)(w:World)(F:Ft)(s':St)(wr:World):Prop where
 inv:Inv s'
 bd:Bd 1099511627776 s'
 sz:s'.sz<=s.sz
 goes:Goes (aU p s') w F wr
 rest: ∃f,s'.af.length<=f∧St.aP s.af.length s c=St.aP f s' c
theorem rL(ha:s.af[i]?=some a):(gC s i a).af.length+1<=s.af.length:=by have h1:=(St.AK (s:=s.aS i) a.id false).length_le;rw[(St.cG (s:=s) i).2.1]at h1;have h2:=St.eH ha;unfold gC;omega
theorem Leaving.next(h:Leaving p s c w F s' wr)(hi:s'.af.findIdx? (·.conn==c)=some i)(ha:s'.af[i]?=some a)(hg:Goes (aU p (gC s' i a)) w F w2):Leaving p s c w F (gC s' i a) w2:=by
 obtain⟨f,hf,e⟩:=h.rest;have hlen:=rL ha;have h2:=St.jT (s:=s') i;have h3:=St.mU (s:=s'.aS i) a.id;have i1:=St.br h.inv i;refine⟨St.eC i1 _ _,(h.bd.aS _).again i1 _ _,by have:=h.sz;unfold gC;omega,hg, ?_⟩
 match f,hf,e with
 |0,hf,_=>omega
 |f+1,hf,e=>
  refine⟨f,by omega, ?_⟩;rw[e];conv=>lhs;unfold St.aP
  rw[hi];dsimp only;rw[ha];rfl
theorem Leaving.done(h:Leaving p s c w F s' wr)(hi:s'.af.findIdx? (·.conn==c)=none):s'=St.aP s.af.length s c:=by
 obtain⟨f,hf,e⟩:=h.rest;rw[e]
 match f with
 |0=>rfl
 |f+1=>unfold St.aP;rw[hi]
theorem rP{α:Type}{p q:α->Bool}: ∀{l:List α},(∀x∈l,p x=q x)->l.findIdx? p=l.findIdx? q
 | [],_=>rfl
 |x::l,h=>by rw[List.findIdx?_cons,List.findIdx?_cons,h x (by simp),rP (fun y hy=>h y (by simp[hy]))]
theorem H0{P:Int}(hb:Bd P s)(c:Int):s.af.findIdx? (isFirst (-1) c)=s.af.findIdx? (·.conn==c):=by
 refine rP fun a ha=> ?_;have:=(hb.at' a ha).id.1;unfold isFirst;have e:(a.id== -1)=false:=by rw[beq_eq_false_iff_ne];omega
 rw[e];simp
def zn(p:Nat)(w:World):Nat:=match w.cell? ⟨p,6,none⟩with|some (.slice _ n _)=>n|_=>0
theorem Bl(hm:MF w p s m g):zn p w=s.reqs.length:=by obtain⟨ao,cap,G,c6,_,_⟩:=hm.reqs;unfold zn;rw[c6]
theorem Xa{v:Value}{l:List Cn}(hr:g.map (·.1)=s.ring)(az:(aI p s m g).holds w F)(h:Goes (lz v l) w (fun _=>False) w2):Goes (aU p {s with aq:=l}) w F (w2.setCell ⟨p,10,none⟩ v):=by
 have h1:Goes (aa (lz v l) (aI p s m g)) w F w2:=(Goes.refl az).fresh h;rw[kV]at h1;have h2:=(h1.eq (show _=aa (iM p s m) (aa (lz v l) (aa (lz m.cv s.aq) (aa (dO m.rv s.reqs) (aa (mz m.av s.af) (aa (rX m.gv g) (aa (inA m.wv s.wait) (iB m.ov s.out)))))))by ac_rfl)).store 10 v;have h3:Goes (aa (aI p {s with aq:=l} {m with cv:=v} g) (lz m.cv s.aq)) w F (w2.setCell ⟨p,10,none⟩ v):=h2.eq (by
  rw[kV];show aa (blk p (.cells (y9 {s with aq:=l} {m with cv:=v}) 162 (0,0))) _=aa (aa (lz v l) (aa (blk p (.cells (y9 {s with aq:=l} {m with cv:=v}) 162 (0,0))) _)) _
  ac_rfl)
 exact cI (s:={s with aq:=l}) (m:={m with cv:=v}) (g:=g) hr h3.drop
end Mr
namespace Lw
open Go.RowKit aM Mc Mr fA bJ
attribute [local go_sem] aL.ag aL.ar
theorem I8(w:World):(sP (.slice none 0 0) []).holds w (fun _=>False):=dS _ _ _ (fun _ h=>h)
theorem CG{base:Nat}{dz:World}(P:uO base dz)(wp n:Nat)(aO:List Pr)(hs:List (Value×Nat))(x:fU)(w:World)(F:Ft)(hp:Pre P wp n aO hs w F)(hn:n+x.s.size+1<=1048576)(hx:x.k≠1∧x.k≠2∧x.k≠3∧x.k≠4∧x.k≠5∧x.k≠6∧x.k≠7)(ha:I64 x.a)(hb:I64 x.b):Calls prog 37 #[.pointer (some ⟨wp,0,none⟩), .agg x.cs] w (gu P wp (n+x.s.size+1)):=by
 obtain⟨k,a,b,le,re,ca,bo,he,s⟩:=x;simp only at hx hn ha hb⊢;obtain⟨x1,x2,x3,x4,x5,x6,x7⟩:=hx;have y1:(k==1)=false:=by rw[beq_eq_false_iff_ne];exact x1
 have y2:(k==2)=false:=by rw[beq_eq_false_iff_ne];exact x2
 have y3:(k==3)=false:=by rw[beq_eq_false_iff_ne];exact x3
 have y4:(k==4)=false:=by rw[beq_eq_false_iff_ne];exact x4
 have y5:(k==5)=false:=by rw[beq_eq_false_iff_ne];exact x5
 have y6:(k==6)=false:=by rw[beq_eq_false_iff_ne];exact x6
 have y7:(k==7)=false:=by rw[beq_eq_false_iff_ne];exact x7
 simp only[fU.cs]at*;have HP:=hide hp;obtain⟨ds,ls,ao,cp,c0,PQ,XW,Ej,qb,Mk,xL,GF,j6⟩:=rh hp (by omega) ha;have GG:=hide hp.good;clear hp;by_cases h0:aO.length=0
 ·rw[h0]at c0;clear j6;go_enter func37,ntmps37;go_wp2;go_ret;exact HP.out.same ((ah _ _).alloc (ae _) _) (by omega)
 have j7:0<aO.length:=by omega
 obtain⟨g,off,i,dM,rfl,Hi,q0,q1,sG,sH,AG⟩:=j6 j7;clear j6;go_enter func37,ntmps37;go_wp2_with fail;go_region_held3 (fun w'=>w'.cell? ⟨wp,0,none⟩=some (.slice (some ⟨g,off,none⟩) aO.length cp)∧w'.cell? ⟨w.heap.size,1,none⟩=some (.int .i64 a)∧w'.cell? ⟨g,off+i*2,none⟩=some (.pointer (some ⟨(aO[i]'dM).x,0,none⟩))∧w'.cell? ⟨g,off+i*2+1,none⟩=some (.pointer (some ⟨(aO[i]'dM).m,0,none⟩))) (go_keep)
  (first|(go_at_call 59;refine(Hi.out _).mono ?_;rintro e w1⟨rfl,rfl⟩))
 all_goals
  clear q0 q1 c0 qb sH Mk;obtain⟨w0,nj,iO,IE,gI,o0,o2,o8,r0,r1,HK⟩:=nU GF k a b le re ca bo he s (aO[i]'dM).x (aO[i]'dM).m;rw[nj];clear nj;have qM:=HP.out.below iO;have wP:=qM.big;have hold:=qM.old;have kt:(jl P wp aO hs ds ls).holds w0 F:=au xL.out iO;have Z9:Hid (Calls prog 64 #[.slice none 0 0, .slice none 0 0] w0 fun e w'=>e= .returned (.bool true)∧Below w0.heap.size w0 w'):=FN _ _ [] w0 _ _ (I8 w0) (I8 w0);have Z2:=hide kt;have R5:=hide qM;clear kt qM r0 r1 HK;go_wp2_with fail;refine Z9.out.mono ?_;rintro e w1⟨rfl,hb1⟩;have rF:Goes (aa (zh wp ds ls (hs.map (·.1)) (.slice none 0 0) []) (aa (VN P ds aO) (all Qu hs.zipIdx))) w0 F w1:=by
   have h1:=((Goes.refl Z2.out).below hb1).fresh (B:=sP (.slice none 0 0) []) (Goes.refl (I8 w1));refine h1.eq ?_;unfold jl lsA zh;rw[bf]
   ac_rfl
  have hmn:Calls prog 65 #[.pointer (some ⟨wp,0,none⟩), .slice none 0 0] w1 fun e w4=>e= .returned (.tuple #[])∧gu P wp (n+s.size+1) (.returned (.bool true)) w4:=by
   refine mB (C:=fun e wa G wb=>Oj wp ds hs 0 wa G e wb) rF (fun G3 Kr=>KW wp ds ls hs _ [] w1 G3 Kr (by omega) (by simp)) ?_;rintro e w4 G4 Ya⟨rfl,a',ET,kI⟩;have h4:=Ya _ kI;have h5:Goes (AE P wp aO (hs++ [(a',2)])) w0 F w4:=Goes.ex ds (Goes.ex ET (h4.eq (by
    unfold jl lsA;rw[List.zipIdx_append,all_append,aN,aH];show _=aa (nc wp ds ET) (aa (VN P ds aO) (aa (rowA 32 1 ET (hs.length+1) (hs.map (·.1)++ [a'])) (aa (all Qu hs.zipIdx) (aa (sP a' (List.replicate 2 (mark (0+hs.length)))) emp))));rw[mO,Nat.zero_add]
    ac_rfl)))
   exact⟨rfl,rfl,R5.out.next h5 (by omega) (fun q hq=>(GG.out q hq).le (by omega)) (by omega) (by simp)⟩
  have HMN:=hide hmn;clear hmn rF hb1 Z2 R5 Z9 o0 o2 o8;go_wp2_with fail;refine HMN.out.mono ?_;rintro e w4⟨rfl,h4⟩;have HX:=hide h4;clear h4;go_wp2;go_ret;exact HX.out
end Lw
namespace fA
open Go.RowKit
variable{c:UInt8}
def Ez:List UInt8:= [115,117,98,99,97,110,112,108,101,116,100,111,102,105,114]
def zi(l:List UInt8):Prop:= ∀c∈l,c∉Ez
def nI:Array Value:= #[.string ⟨#[115,117,98]⟩, .string ⟨#[99,97,110]⟩, .string ⟨#[112,117,108,108]⟩, .string ⟨#[98,101,97,116]⟩, .string ⟨#[100,111,110,101]⟩, .string ⟨#[102,97,105,108]⟩, .string ⟨#[100,114,97,105,110]⟩]
theorem Qe(w:World)(k:Nat)(hk:k<7): ∃x:ByteArray,(w.alloc (.cells nI 9)).cell? ⟨w.heap.size,k,none⟩=some (.string x)∧x.size<=5:=by
 have h:(w.alloc (.cells nI 9)).cell? ⟨w.heap.size,k,none⟩=nI[k]?:=by have:=heap_alloc_new w (.cells nI 9);simp only[World.cell?,this];rfl
 rw[h]
 match k,hk with
 |0,_=>exact⟨_,rfl,by decide⟩
 |1,_=>exact⟨_,rfl,by decide⟩
 |2,_=>exact⟨_,rfl,by decide⟩
 |3,_=>exact⟨_,rfl,by decide⟩
 |4,_=>exact⟨_,rfl,by decide⟩
 |5,_=>exact⟨_,rfl,by decide⟩
 |6,_=>exact⟨_,rfl,by decide⟩
theorem I9(s:ByteArray)(j:Nat)(h:j<s.size)(hn:zi (s.data.toList.take j))(hc:s[j]∉Ez):zi (s.data.toList.take (j+1)):=by
 intro c hm;rw[bJ.take_snoc s j h]at hm;rcases List.mem_append.1 hm with h'|h'
 ·exact hn c h'
 ·have:=cY.1 h';subst this;exact hc
theorem lZ{d:UInt8}(h:c≠d)(n:Int)(hn:(d.toNat:Int)=n):((c.toNat:Int)==n)=false:=by rw[beq_eq_false_iff_ne];intro e;apply h;apply UInt8.toNat.inj;omega
theorem UN(h:c∉Ez):((c.toNat:Int)==115)=false∧((c.toNat:Int)==117)=false∧((c.toNat:Int)==98)=false∧((c.toNat:Int)==99)=false∧((c.toNat:Int)==97)=false∧((c.toNat:Int)==110)=false∧((c.toNat:Int)==112)=false∧((c.toNat:Int)==108)=false∧((c.toNat:Int)==101)=false∧((c.toNat:Int)==116)=false∧((c.toNat:Int)==100)=false∧((c.toNat:Int)==111)=false∧((c.toNat:Int)==102)=false∧((c.toNat:Int)==105)=false∧((c.toNat:Int)==114)=false:=by have h': ∀d∈Ez,c≠d:=fun d hd e=>h (e▸hd);exact⟨lZ (h' 115 (by decide)) _ rfl,lZ (h' 117 (by decide)) _ rfl,lZ (h' 98 (by decide)) _ rfl,lZ (h' 99 (by decide)) _ rfl,lZ (h' 97 (by decide)) _ rfl,lZ (h' 110 (by decide)) _ rfl,lZ (h' 112 (by decide)) _ rfl,lZ (h' 108 (by decide)) _ rfl,lZ (h' 101 (by decide)) _ rfl,lZ (h' 116 (by decide)) _ rfl,lZ (h' 100 (by decide)) _ rfl,lZ (h' 111 (by decide)) _ rfl,lZ (h' 102 (by decide)) _ rfl,lZ (h' 105 (by decide)) _ rfl,lZ (h' 114 (by decide)) _ rfl⟩
def jB(s:ByteArray)(w:World)(e:Ending)(w':World):Prop:= ∃r:Bool,e= .returned (.bool r)∧(r=false->zi s.data.toList)∧Below w.heap.size w w'
theorem wA(s:ByteArray)(w:World):jB s w (.returned (.bool true)) (w.alloc (.cells nI 9)):=⟨true,rfl,(fun h=>by cases h),(ah _ _).alloc (ae _) _⟩
theorem MG(s:ByteArray):Hid (zi (s.data.toList.take 0)):=by intro c hc;simp at hc
theorem IL(h:c∈Ez)(h0:((c.toNat:Int)==115)=false)(h1:((c.toNat:Int)==117)=false)(h2:((c.toNat:Int)==98)=false)(h3:((c.toNat:Int)==99)=false)(h4:((c.toNat:Int)==97)=false)(h5:((c.toNat:Int)==110)=false)(h6:((c.toNat:Int)==112)=false)(h7:((c.toNat:Int)==108)=false)(h8:((c.toNat:Int)==101)=false)(h9:((c.toNat:Int)==116)=false)(h10:((c.toNat:Int)==100)=false)(h11:((c.toNat:Int)==111)=false)(h12:((c.toNat:Int)==102)=false)(h13:((c.toNat:Int)==105)=false)(h14:((c.toNat:Int)==114)=false):False:=by
 have hk: ∀d∈Ez,((d.toNat:Int)==115||(d.toNat:Int)==117||(d.toNat:Int)==98||(d.toNat:Int)==99||(d.toNat:Int)==97||(d.toNat:Int)==110||(d.toNat:Int)==112||(d.toNat:Int)==108||(d.toNat:Int)==101||(d.toNat:Int)==116||(d.toNat:Int)==100||(d.toNat:Int)==111||(d.toNat:Int)==102||(d.toNat:Int)==105||(d.toNat:Int)==114)=true:=by decide
 have:=hk c h;rw[h0,h1,h2,h3,h4,h5,h6,h7,h8,h9,h10,h11,h12,h13,h14]at this;cases this
theorem mN(s:ByteArray)(w:World)(hs:s.size<=4194304):Calls prog 56 #[.string s] w (jB s w):=by
 have Ee:=Qe w;go_enter func56,ntmps56;go_wp2;go_loopw [9] (fun i wr=> ∃k:Nat,k<=7∧i= .int .i64 k∧Hid (wr=w.alloc (.cells nI 9))) (fun i _=>7-(intOf i).toNat)
 case atStart=>exact⟨0,aJ _,rfl,Eq.refl _⟩
 case round=>
  obtain⟨k,hk,rfl,HWR⟩:=hrel;obtain rfl:=HWR.out;by_cases ay:k<7
  ·obtain⟨x,hx,vd⟩:=Ee k ay;clear Ee;go_wp2
   go_loop [5] (fun i=> ∃j:Nat,j<=s.size+1∧i= .int .i64 j) (fun i=>s.size+1-(intOf i).toNat)
   case atStart=>exact⟨0,aJ _,rfl⟩
   case round=>
    obtain⟨j,hj,rfl⟩:=hrel;by_cases lK:j+x.size<=s.size
    ·cases hq:((s.extract j (j+x.size)).toList==x.toList)
     ·go_wp2
      go_round
      case rel=>exact⟨j+1,by omega,by go_num⟩
      case measure=>simp[intOf];omega
     ·go_wp2;go_ret;exact wA s w
    ·go_wp2;go_roundw
     case rel=>exact⟨k+1,by omega,by go_num,trivial⟩
     case measure=>simp[intOf];omega
  ·go_wp2
   go_loop [6] (fun i=> ∃j:Nat,j<=s.size∧i= .int .i64 j∧Hid (zi (s.data.toList.take j))) (fun i=>s.size-(intOf i).toNat)
   case atStart=>exact⟨0,aJ _,rfl,MG s⟩
   case round=>
    obtain⟨j,hj,rfl,HN⟩:=hrel;by_cases lK:j<s.size
    ·by_cases KB:s[j]∈Ez
     ·have ZQ:Hid (s[j]∈Ez):=KB;clear KB;go_wp2
      all_goals first
       |(go_ret;exact wA s w)
       |exact(IL ZQ.out (by assumption) (by assumption) (by assumption) (by assumption) (by assumption) (by assumption) (by assumption) (by assumption) (by assumption) (by assumption) (by assumption) (by assumption) (by assumption) (by assumption) (by assumption)).elim
     ·have KD:=UN KB;have HN2:Hid (zi (s.data.toList.take (j+1))):=I9 s j lK HN.out KB;clear HN KB;obtain⟨n0,n1,n2,n3,n4,n5,n6,n7,n8,n9,n10,n11,n12,n13,n14⟩:=KD;go_wp2
      go_round
      case rel=>exact⟨j+1,by omega,by go_num,HN2⟩
      case measure=>simp[intOf];omega
    ·obtain rfl:j=s.size:=by omega
     have HN2:Hid (zi s.data.toList):=by have h:=HN.out;rw[bJ.nW]at h;exact h
     go_wp2;go_ret;exact⟨false,rfl,fun _=>HN2.out,(ah _ _).alloc (ae _) _⟩
end fA
namespace bJ
open Go.RowKit
theorem abq(s:ByteArray)(w:World)(hs:s.size<=4194304)(k a b c d:List UInt8)(r:List (List UInt8))(hw:bW 32 s.data.toList=k::a::b::c::d::r):Calls prog 55 #[.string s] w (dY s.data.toList w):=by
 have HR:Hid (dJ s.data.toList=aT (k::a::b::c::d::r)):=congrArg aT hw;obtain⟨n,hn⟩: ∃n,(bW 32 s.data.toList).length=n:=⟨_,rfl⟩;have hn5:5<=n:=by rw[<-hn,hw];simp
 have ie:Hid (∀w:World,Calls prog 93 #[.string s, .int .u8 32] w fun e w'=> ∃g cap,e= .returned (.slice (some ⟨g,0,none⟩) n cap)∧w.heap.size<=g∧
   w'.ownsRow w.heap.size 9 1 (.slice (some ⟨g,0,none⟩) n cap) n (strs (k::a::b::c::d::r))∧Below w.heap.size w w'):=by
  intro w;have h:=BG s 32 w hs;rw[hn,hw]at h;exact h
 have hlen:n=(k::a::b::c::d::r).length:=by rw[<-hn,hw]
 have La:Hid (n=(k::a::b::c::d::r).length):=hlen;clear hw hn hlen;have q1:((n:Int)==1)=false:=by rw[beq_eq_false_iff_ne];omega
 have q2:((n:Int)==2)=false:=by rw[beq_eq_false_iff_ne];omega
 have q3:((n:Int)==3)=false:=by rw[beq_eq_false_iff_ne];omega
 have q4:((n:Int)==4)=false:=by rw[beq_eq_false_iff_ne];omega
 go_enter func55,ntmps55;go_wp2_with fail;refine(ie.out _).mono ?_;rintro e w1⟨g,cap,rfl,hg,a8,hb1⟩;have c0:w1.cell? ⟨g,0,none⟩=some (.string ⟨k.toArray⟩):=bL a8 (k:=0) (by simp) La.out;have sG:g<w1.heap.size:=(a8.lt g rfl).2;have dN:=hb1.size;simp only[World.size_alloc]at dN hg;have gS:w.heap.size<w1.heap.size:=by omega
 have cC:w.heap.size≠g:=by omega
 clear dN;obtain⟨r0,r1,r2,r3,r4,f0,f1,f2,f3,f4⟩:=ko hb1;have HB:Hid (Below w.heap.size w w1):=((ah _ _).alloc (ae _) _).trans (hb1.mono (by simp));clear a8 hb1 hg;go_wp2;refine bodyPost_ret (v:= .tuple #[.agg (Mg.cs ⟨k,0,0, [], []⟩), .bool false]) (by simp[results,results55,go_sem,Mg.cs, *]) rfl ⟨eh (by rw[HR.out];rfl), ?_⟩;exact dA HB.out (by omega) _ _ _ _ _ _
theorem Q3(vI:cX)(s:ByteArray)(w:World)(hs:s.size<=4194304):Calls prog 55 #[.string s] w (dY s.data.toList w):=by
 rcases hw:bW 32 s.data.toList with _|⟨k,_|⟨a,_|⟨b,_|⟨t,_|⟨d,r⟩⟩⟩⟩⟩
 ·exact absurd hw (BH _ _)
 ·cases h1:(k== [112,117,108,108])
  ·cases h2:(k== [98,101,97,116])
   ·cases h3:(k== [100,114,97,105,110])
    ·exact Fy vI s w hs k hw h1 h2 h3
    ·exact Fx vI s w hs k hw h1 h2 h3
   ·exact Jn vI s w hs k hw h1 h2
  ·exact Jo vI s w hs k hw h1
 ·cases h1:(k== [99,97,110])
  ·exact Fz vI s w hs k a hw h1
  ·exact MS vI s w hs k a hw h1
 ·cases h1:(k== [102,97,105,108])
  ·exact FA vI s w hs k a b hw h1
  ·exact Jp vI s w hs k a b hw h1
 ·cases h1:(k== [100,111,110,101])
  ·cases h2:(k== [115,117,98])
   ·exact FB vI s w hs k a b t hw h1 h2
   ·exact MT vI s w hs k a b t hw h1 h2
  ·exact Jq vI s w hs k a b t hw h1
 ·exact abq s w hs k a b t d r hw
