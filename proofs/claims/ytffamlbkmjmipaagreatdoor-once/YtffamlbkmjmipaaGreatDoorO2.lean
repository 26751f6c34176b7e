import Derived.Test.YtffamlbkmjmipaaGreatDoorO1
set_option maxHeartbeats 8000000
set_option maxRecDepth 100000
namespace Go.Proofs.YtffamlbkmjmipaaGreatDoor
open _root_.Go.Proofs.Tryz
namespace Kp
open Go.RowKit aJ Mc Mr Lw bG
attribute [local go_sem] aG.ae aG.ag
variable{s:ByteArray}{i:Nat}
theorem wI:(prog.info? 9).map (fun i=>(i.zero,i.size,i.bytes))=some (some (.string ⟨#[]⟩),1,16):=by kernel_rfl
theorem Dd:(prog.info? 3).map (fun i=>(i.zero,i.size,i.bytes))=some (some (.int .i64 0),1,8):=by kernel_rfl
theorem Em(t:Bs)(ht:t.length<=2000000)(w:World):Calls prog 31 #[.string ⟨(aG.line t).toArray⟩] w fun e w'=>e= .returned (.string ⟨t.toArray⟩)∧w'=w:=by
 obtain⟨L,hL⟩: ∃L:ByteArray,L=⟨(aG.line t).toArray⟩:=⟨_,rfl⟩;have dc:L.size=t.length+9:=by rw[hL];show(aG.line t).length=_;simp[aG.line,aG.hex,aG.two]
 have hex:L.extract 0 t.length=⟨t.toArray⟩:=by have h:=tu L 0 t.length;rw[Nat.zero_add,List.drop_zero]at h;apply ByteArray.ext;apply Array.ext';rw[h,hL];show(aG.line t).take t.length=t;have:=nM t;rw[show(aG.line t).length-9=t.length by simp[aG.line,aG.hex,aG.two]]at this;exact this
 have U3:=hide hex;rw[<-hL];clear hL hex;have h1: ¬(L.size:Int)<9:=by omega
 have h2:((L.size:Int)-9).toNat=t.length:=by omega
 have h3:(0:Int)<=(L.size:Int)-9:=by omega
 have h4:(L.size:Int)-9<=(L.size:Int):=by omega
 go_enter func31,ntmps31;go_wp2;go_ret;exact⟨by rw[<-U3.out];rfl,rfl⟩
def zI(l:Bs)(i:Nat):List Bs:=if i<=l.length then(gu 32 (l.take i)).1 else bB 32 l
theorem vF(s:ByteArray):s.data.toList.length=s.size:=by simp
theorem W9(h:i<s.size)(hb:s[i]=32):zI s.data.toList (i+1)=zI s.data.toList i++ [(gu 32 (s.data.toList.take i)).2]∧(gu 32 (s.data.toList.take (i+1))).2= []:=by
 have hl:=vF s;have e:gu 32 (s.data.toList.take (i+1))=((gu 32 (s.data.toList.take i)).1++ [(gu 32 (s.data.toList.take i)).2], []):=by rw[take_snoc s i h,nv];unfold dz;rw[if_pos hb]
 unfold zI;rw[if_pos (by omega),if_pos (by omega),e];exact⟨rfl,rfl⟩
theorem W8(h:i<s.size)(hb:s[i]≠32):zI s.data.toList (i+1)=zI s.data.toList i∧(gu 32 (s.data.toList.take (i+1))).2=(gu 32 (s.data.toList.take i)).2++ [s[i]]:=by
 have hl:=vF s;have e:gu 32 (s.data.toList.take (i+1))=((gu 32 (s.data.toList.take i)).1,(gu 32 (s.data.toList.take i)).2++ [s[i]]):=by rw[take_snoc s i h,nv];unfold dz;rw[if_neg hb]
 unfold zI;rw[if_pos (by omega),if_pos (by omega),e];exact⟨rfl,rfl⟩
theorem T8(s:ByteArray):zI s.data.toList (s.size+1)=zI s.data.toList s.size++ [(gu 32 (s.data.toList.take s.size)).2]:=by have hl:=vF s;unfold zI;rw[if_neg (by omega),if_pos (by omega),QV];rfl
theorem T9{f:Nat}(hf:f<=i)(h:i<s.size):(s.extract f (i+1)).data.toList=(s.extract f i).data.toList++ [s[i]]:=by have h1:=tu s f (i+1-f);have h2:=tu s f (i-f);rw[show f+(i+1-f)=i+1 by omega]at h1;rw[show f+(i-f)=i by omega]at h2;rw[h1,h2,show i+1-f=(i-f)+1 by omega,iG (by rw[List.length_drop,vF];omega)];congr 1;rw[List.getElem_drop];congr 1;show s.data.toList[f+(i-f)]'_=s[i];simp only[show f+(i-f)=i by omega];rfl
theorem Ju{w wa w2:World}{G:Ft}{ao:Option Addr}{cp:Nat}{v:Value}{l:List Bs}{x:ByteArray}{p:Bs}(hx:x.data.toList=p)(hG:(stA v l).holds wa G)(oG:Only (fun _=>False) w wa)(nG: ∀k,G k->(fun _=>False:Ft) k∨w.heap.size<=k)(hg:Goes (rowA 9 1 (.slice ao (l.length+1) cp) (l.length+1) (flat ke l++ [.string x])) wa G w2):Goes (stA (.slice ao (l++ [p]).length cp) (l++ [p])) w (fun _=>False) w2:=by
 have h:=kR hG oG nG hg;unfold stA;rw[wu,aH];have e:flat ke [p]= [.string x]:=by subst hx;rfl
 rw[e];exact h
theorem Ax(s:ByteArray)(hs:s.size<=2000000)(w:World):Calls prog 30 #[.string s] w fun e w'=> ∃v,e= .returned v∧Goes (stA v (bB 32 s.data.toList)) w (fun _=>False) w':=by
 obtain⟨i0,jo,mz,ja,jK⟩:=info_parts wI;have hl:s.data.toList.length=s.size:=by simp
 have HL:=hide hl;have Xi:Hid (zI s.data.toList 0= []):=by show _=_;unfold zI;rw[if_pos (bh _)];rfl
 have HWE:Hid (zI s.data.toList (s.size+1)=bB 32 s.data.toList):=by show _=_;unfold zI;rw[if_neg (by omega)]
 clear hl;go_enter func30,ntmps30;go_wp2_with fail;go_loopw [3,4,5] (fun ov fv iv wr=> ∃(i f:Nat) (ao:Option Addr) (cp:Nat),i<=s.size+1∧f<=i∧ov= .slice ao (zI s.data.toList i).length cp∧fv= .int .i64 f∧iv= .int .i64 i∧Hid (i<=s.size->(s.extract f i).data.toList=(gu 32 (s.data.toList.take i)).2)∧Hid ((zI s.data.toList i).length<=i∧Goes (stA (.slice ao (zI s.data.toList i).length cp) (zI s.data.toList i)) w (fun _=>False) wr)) (fun _ _ iv _=>s.size+2-(intOf iv).toNat)
 case atStart=>exact⟨0,0,none,0,bh _,af _,by rw[Xi.out];rfl,rfl,rfl,fun _=>by simp[gu],by rw[Xi.out];exact⟨af _,Goes.refl (fO _ _ _ (fun _ h=>h))⟩⟩
 case round=>
  obtain⟨i,f,ao,cp,hi,hf,rfl,rfl,rfl,HX,HG⟩:=hrel;by_cases BS:i<=s.size
  ·obtain⟨hn,hg⟩:=HG.out;have Ew:=HG;obtain⟨G,hG,oG,nG⟩:=hg.dA (.cells #[.string (s.extract f i)] 9 (0,0));have U5:=hide hG;have HOR:=hide oG;have HNR:=hide nG;have HN:=hide hn;have HXE:=hide (HX.out BS);have VS:(f:Int)<=(i:Int):=by omega
   have his:(i:Int)<=(s.size:Int):=by omega
   clear hG oG nG hg hn HG;rcases Nat.lt_or_ge i s.size with aN|LR
   ·by_cases hb:s[i]=32
    ·have bT:s[i].toNat=32:=by rw[hb];rfl
     have cA: ¬(i:Int)=(s.size:Int):=by omega
     obtain⟨e1,e2⟩:=W9 aN hb;have Rf:=hide e1;have X1:=hide e2;clear e1 e2 hb;go_wp2_with (at_builtin;go_must(refine aT _ rfl _ _ 37 rfl 9 i0 (.string ⟨#[]⟩) 1 16 underlying37 jo mz ja jK rfl (by decide) (F:=G) _ (zI s.data.toList i).length (flat ke (zI s.data.toList i)) rfl U5.out ⟨wr.heap.size,0,none⟩ 1 1 [.string (s.extract f i)] rfl rfl (World.news_of_block (cs:= #[.string (s.extract f i)]) (t:=9) (fr:=(0,0)) (heap_alloc_new wr _)) (by simp[Value.oneCell']) (by have:=HN.out;unfold maxLen;omega) (by have:=HN.out;omega) ?_;intro dK pS w2 bE;have mD:=hide (Ju (HXE.out) U5.out HOR.out HNR.out bE);clear bE));go_roundw
     case rel=>exact⟨i+1,i+1,dK,pS,by omega,af _,by rw[Rf.out,aH];rfl,by go_num,by go_num,fun _=>by rw[X1.out];simp,by rw[Rf.out];exact⟨by rw[aH];have:=HN.out;simp;omega,mD.out⟩⟩
     case measure=>simp[intOf];omega
    ·have bT: ¬s[i].toNat=32:=fun e=>hb (UInt8.toNat_inj.1 e);have uq:((i:Int)==(s.size:Int))=false:=by rw[beq_eq_false_iff_ne];omega
     have Zb:((s[i].toNat:Int)==32)=false:=by rw[beq_eq_false_iff_ne];omega
     obtain⟨e1,e2⟩:=W8 aN hb;have Rf:=hide e1;have X1:=hide e2;clear e1 e2 hb;go_wp2;go_roundw
     case rel=>exact⟨i+1,f,ao,cp,by omega,by omega,by rw[Rf.out],rfl,by go_num,fun _=>by rw[X1.out,T9 hf aN,HXE.out],by rw[Rf.out];exact⟨ar Ew.out.1 (by omega),Ew.out.2⟩⟩
     case measure=>simp[intOf];omega
   ·obtain rfl:i=s.size:=by omega
    have Rf:=hide (T8 s);go_wp2_with (at_builtin;go_must(refine aT _ rfl _ _ 37 rfl 9 i0 (.string ⟨#[]⟩) 1 16 underlying37 jo mz ja jK rfl (by decide) (F:=G) _ (zI s.data.toList s.size).length (flat ke (zI s.data.toList s.size)) rfl U5.out ⟨wr.heap.size,0,none⟩ 1 1 [.string (s.extract f s.size)] rfl rfl (World.news_of_block (cs:= #[.string (s.extract f s.size)]) (t:=9) (fr:=(0,0)) (heap_alloc_new wr _)) (by simp[Value.oneCell']) (by have:=HN.out;unfold maxLen;omega) (by have:=HN.out;omega) ?_;intro dK pS w2 bE;have mD:=hide (Ju (HXE.out) U5.out HOR.out HNR.out bE);clear bE));go_roundw
    case rel=>exact⟨s.size+1,s.size+1,dK,pS,by omega,af _,by rw[Rf.out,aH];rfl,by go_num,by go_num,fun h=>absurd h (by omega),by rw[Rf.out];exact⟨by rw[aH];have:=HN.out;simp;omega,mD.out⟩⟩
    case measure=>simp[intOf]
  ·obtain rfl:i=s.size+1:=by omega
   have V4: ¬((s.size+1:Nat):Int)<=(s.size:Int):=by omega
   have hg:=HG.out.2;rw[HWE.out]at hg;have HR:=hide hg;clear hg HG HX;go_wp2;go_ret;refine⟨_,rfl, ?_⟩;rw[HWE.out];exact HR.out
def gC(l:List Bs)(x:Bs):Nat->Int
 |0=> -1
 |k+1=>if l[k]?=some x then(k:Int)else gC l x k
def vQ(O:Mc.Op)(ws:List Bs):Int:=if 1<ws.length then gC (O.map (·.1)) (ws.getD 1 []) O.length else-1
theorem uE{O:Mc.Op}{i:Nat}{x:Bs}{c:Int}(h:zi O i x c): ∀k,i<k->k<=O.length->gC (O.map (·.1)) x k=(i:Int)
 |0,hk,_=>by omega
 |k+1,hk,hl=>by
  unfold gC;by_cases e:k=i
  ·subst e;rw[if_pos (by rw[List.getElem?_map,h.at'];rfl)]
  ·rw[if_neg (fun hx=>by
    rw[List.getElem?_map]at hx;obtain⟨p,hp,ep⟩:=Option.map_eq_some_iff.1 hx;exact h.last k p (by omega) hp ep)]
   exact uE h k (by omega) (by omega)
theorem uD{O:Mc.Op}{x:Bs}(h: ∀p∈O,p.1≠x): ∀k,gC (O.map (·.1)) x k= -1
 |0=>rfl
 |k+1=>by
  unfold gC;rw[if_neg (fun hx=>by rw[List.getElem?_map]at hx;obtain⟨p,hp,ep⟩:=Option.map_eq_some_iff.1 hx;exact h p (cJ hp) ep)]
  exact uD h k
structure Seen(w1:World)(po pw:Nat)(ao:Option Addr)(co:Nat)(aw:Option Addr)(cw:Nat)(O:Mc.Op)(ax:Option Addr)(cx:Nat)(ws:List Bs):Prop where
 po:w1.cell? ⟨po,0,none⟩=some (.slice ao O.length co)
 pw:w1.cell? ⟨pw,0,none⟩=some (.slice aw O.length cw)
 os: ∀k (hk:k<O.length),∃g off,ao=some ⟨g,off,none⟩∧w1.cell? ⟨g,off+k,none⟩=some (.string ⟨(O[k]'hk).1.toArray⟩)
 iw: ∀k (hk:k<O.length),∃g off,aw=some ⟨g,off,none⟩∧w1.cell? ⟨g,off+k,none⟩=some (.int .i64 (O[k]'hk).2)
 xs: ∀k (hk:k<ws.length),∃g off,ax=some ⟨g,off,none⟩∧w1.cell? ⟨g,off+k,none⟩=some (.string ⟨(ws[k]'hk).toArray⟩)
noncomputable def wj:Nat->Code->Code
 |0,c=>c
 |n+1, .seq _ y=>wj n y
 |_+1,c=>c
noncomputable def nB:Code:=match f32.body with|some c=>wj 3 c|none=> .skip
theorem ji(po pw:Nat)(ao:Option Addr)(co:Nat)(aw:Option Addr)(cw:Nat)(O:Mc.Op)(ax:Option Addr)(cx:Nat)(ws:List Bs)(c:Int)(msg:ByteArray)(w1:World)(R:Ending->World->Prop)(hs:Seen w1 po pw ao co aw cw O ax cx ws)(hO:O.length<=100000)(hw:ws.length<=100000)(hK: ∀(v5 v6 v7 v8 v9 v12 yO py mA tX v17 mi jL v20 v21 v22 v23 v24 v25 v26 jM v28 jN v30 v31 v32 v33 jO v35 jP v37 jS v39 v40 v41 jT jU v44 v45 v46 jV jX v49 v50 v51 jY v53 v54 v55 jZ j4 v58 v59 v60 j5 k5 j6 v64 j7 v66 v67 kD kE v70 kF v72 kG kH v75 v76 v77 v78 v79 v80 k6 v82 k7 k8 v85 k9 v87 lf lg lh v91 lj v93 ll lq lu lx ly lz dF dG dH dI dR v105 dS v107 dT v109 dU dV dW dX dY dZ eh v117 eu eA eB eC eD eE v124 eF eG v127 eH eI v130 v131 eJ eK eN eO eP eQ v138 v139 eT v141 eU v143 fe v145 v146 fg v148 fh fl:Value),nB.wp prog (bodyPost prog f32 R) ⟨#[.pointer (some ⟨po,0,none⟩), .pointer (some ⟨pw,0,none⟩), .int .i64 c, .slice ax ws.length cx, .string msg,v5,v6,v7,v8,v9, .bool false, .int .i64 (vQ O ws),v12,yO,py,mA,tX,v17,mi,jL,v20,v21,v22,v23,v24,v25,v26,jM,v28,jN,v30,v31,v32,v33,jO,v35,jP,v37,jS,v39,v40,v41,jT,jU,v44,v45,v46,jV,jX,v49,v50,v51,jY,v53,v54,v55,jZ,j4,v58,v59,v60,j5,k5,j6,v64,j7,v66,v67,kD,kE,v70,kF,v72,kG,kH,v75,v76,v77,v78,v79,v80,k6,v82,k7,k8,v85,k9,v87,lf,lg,lh,v91,lj,v93,ll,lq,lu,lx,ly,lz,dF,dG,dH,dI,dR,v105,dS,v107,dT,v109,dU,dV,dW,dX,dY,dZ,eh,v117,eu,eA,eB,eC,eD,eE,v124,eF,eG,v127,eH,eI,v130,v131,eJ,eK,eN,eO,eP,eQ,v138,v139,eT,v141,eU,v143,fe,v145,v146,fg,v148,fh,fl], []⟩ w1):Calls prog 32 #[.pointer (some ⟨po,0,none⟩), .pointer (some ⟨pw,0,none⟩), .int .i64 c, .slice ax ws.length cx, .string msg] w1 R:=by
 have HS:=hide hs;have c0:=hs.po;have U8:=hide hK;clear hs hK;go_enter func32,ntmps32;refine wp_seq_k fun K1 CY=> ?_;have B8:=hide CY;clear CY;go_wp2;refine B8.out _ _ ?_;clear B8 K1;refine wp_seq_k fun K2 CZ=> ?_;have B9:=hide CZ;clear CZ;go_wp2;refine B9.out _ _ ?_;clear B9 K2;refine wp_seq_k fun K3 C0=> ?_;have C4: ∀(v5 v6 v7 v8 v9 v12 yO py mA tX v17 mi jL v20 v21 v22 v23 v24 v25 v26 jM v28 jN v30 v31 v32 v33 jO v35 jP v37 jS v39 v40 v41 jT jU v44 v45 v46 jV jX v49 v50 v51 jY v53 v54 v55 jZ j4 v58 v59 v60 j5 k5 j6 v64 j7 v66 v67 kD kE v70 kF v72 kG kH v75 v76 v77 v78 v79 v80 k6 v82 k7 k8 v85 k9 v87 lf lg lh v91 lj v93 ll lq lu lx ly lz dF dG dH dI dR v105 dS v107 dT v109 dU dV dW dX dY dZ eh v117 eu eA eB eC eD eE v124 eF eG v127 eH eI v130 v131 eJ eK eN eO eP eQ v138 v139 eT v141 eU v143 fe v145 v146 fg v148 fh fl:Value),K3 ⟨#[.pointer (some ⟨po,0,none⟩), .pointer (some ⟨pw,0,none⟩), .int .i64 c, .slice ax ws.length cx, .string msg,v5,v6,v7,v8,v9, .bool false, .int .i64 (vQ O ws),v12,yO,py,mA,tX,v17,mi,jL,v20,v21,v22,v23,v24,v25,v26,jM,v28,jN,v30,v31,v32,v33,jO,v35,jP,v37,jS,v39,v40,v41,jT,jU,v44,v45,v46,jV,jX,v49,v50,v51,jY,v53,v54,v55,jZ,j4,v58,v59,v60,j5,k5,j6,v64,j7,v66,v67,kD,kE,v70,kF,v72,kG,kH,v75,v76,v77,v78,v79,v80,k6,v82,k7,k8,v85,k9,v87,lf,lg,lh,v91,lj,v93,ll,lq,lu,lx,ly,lz,dF,dG,dH,dI,dR,v105,dS,v107,dT,v109,dU,dV,dW,dX,dY,dZ,eh,v117,eu,eA,eB,eC,eD,eE,v124,eF,eG,v127,eH,eI,v130,v131,eJ,eK,eN,eO,eP,eQ,v138,v139,eT,v141,eU,v143,fe,v145,v146,fg,v148,fh,fl], []⟩ w1:=fun v5 v6 v7 v8 v9 v12 yO py mA tX v17 mi jL v20 v21 v22 v23 v24 v25 v26 jM v28 jN v30 v31 v32 v33 jO v35 jP v37 jS v39 v40 v41 jT jU v44 v45 v46 jV jX v49 v50 v51 jY v53 v54 v55 jZ j4 v58 v59 v60 j5 k5 j6 v64 j7 v66 v67 kD kE v70 kF v72 kG kH v75 v76 v77 v78 v79 v80 k6 v82 k7 k8 v85 k9 v87 lf lg lh v91 lj v93 ll lq lu lx ly lz dF dG dH dI dR v105 dS v107 dT v109 dU dV dW dX dY dZ eh v117 eu eA eB eC eD eE v124 eF eG v127 eH eI v130 v131 eJ eK eN eO eP eQ v138 v139 eT v141 eU v143 fe v145 v146 fg v148 fh fl=>by have h:=U8.out v5 v6 v7 v8 v9 v12 yO py mA tX v17 mi jL v20 v21 v22 v23 v24 v25 v26 jM v28 jN v30 v31 v32 v33 jO v35 jP v37 jS v39 v40 v41 jT jU v44 v45 v46 jV jX v49 v50 v51 jY v53 v54 v55 jZ j4 v58 v59 v60 j5 k5 j6 v64 j7 v66 v67 kD kE v70 kF v72 kG kH v75 v76 v77 v78 v79 v80 k6 v82 k7 k8 v85 k9 v87 lf lg lh v91 lj v93 ll lq lu lx ly lz dF dG dH dI dR v105 dS v107 dT v109 dU dV dW dX dY dZ eh v117 eu eA eB eC eD eE v124 eF eG v127 eH eI v130 v131 eJ eK eN eO eP eQ v138 v139 eT v141 eU v143 fe v145 v146 fg v148 fh fl;exact C0 _ _ h
 have vg:=hide C4;clear C0 C4 U8;by_cases hlen:1<ws.length
 ·obtain⟨gx,ox,rfl,cx1⟩:=HS.out.xs 1 hlen;have Az:Hid (vQ O ws=gC (O.map (·.1)) (ws[1]'hlen) O.length):=by
   show _=_;unfold vQ;rw[if_pos hlen,List.getD_eq_getElem?_getD,aY hlen];rfl
  have A9:(1:Int)<(ws.length:Int):=by omega
  generalize ws[1]'hlen=x1 at*;go_wp2_with fail;go_loopw [11,24] (fun av iv wr=> ∃k:Nat,k<=O.length∧iv= .int .i64 k∧av= .int .i64 (gC (O.map (·.1)) x1 k)∧w1=wr) (fun _ iv _=>O.length-(intOf iv).toNat)
  case atStart=>exact⟨0,bh _,rfl,rfl,rfl⟩
  case round=>
   obtain⟨k,hk,rfl,rfl,rfl⟩:=hrel;by_cases aN:k<O.length
   ·obtain⟨go,oo,rfl,co1⟩:=HS.out.os k aN;have Ue:Hid (gC (O.map (·.1)) x1 (k+1)=if(O[k]'aN).1=x1 then(k:Int)else gC (O.map (·.1)) x1 k):=by
     show _=_;rw[gC,List.getElem?_map,aY aN];simp only[Option.map_some,Option.some.injEq]
    generalize(O[k]'aN).1=ok at*;by_cases he:ok=x1
    ·subst he;have HLB:Hid (gC (O.map (·.1)) ok (k+1)=(k:Int)):=by show _=_;rw[Ue.out,if_pos rfl]
     clear Ue;go_wp2;go_roundw
     case rel=>exact⟨k+1,by omega,by go_num,by rw[HLB.out],by first|trivial|rfl⟩
     case measure=>simp[intOf];omega
    ·have HLB:Hid (gC (O.map (·.1)) x1 (k+1)=gC (O.map (·.1)) x1 k):=by show _=_;rw[Ue.out,if_neg he]
     have hbe:(ok==x1)=false:=by rw[beq_eq_false_iff_ne];exact he
     clear Ue;go_wp2;go_roundw
     case rel=>exact⟨k+1,by omega,by go_num,by rw[HLB.out],by first|trivial|rfl⟩
     case measure=>simp[intOf];omega
   ·obtain rfl:k=O.length:=by omega
    rw[<-Az.out];go_wp2;exact vg.out _ _ _ _ _ _ _ _ _ _ _ _ _ _ _ _ _ _ _ _ _ _ _ _ _ _ _ _ _ _ _ _ _ _ _ _ _ _ _ _ _ _ _ _ _ _ _ _ _ _ _ _ _ _ _ _ _ _ _ _ _ _ _ _ _ _ _ _ _ _ _ _ _ _ _ _ _ _ _ _ _ _ _ _ _ _ _ _ _ _ _ _ _ _ _ _ _ _ _ _ _ _ _ _ _ _ _ _ _ _ _ _ _ _ _ _ _ _ _ _ _ _ _ _ _ _ _ _ _ _ _ _ _ _ _ _ _ _ _ _ _ _ _ _
 ·have Az:Hid (vQ O ws= -1):=by show _=_;unfold vQ;rw[if_neg hlen]
  have A9: ¬(1:Int)<(ws.length:Int):=by omega
  rw[Az.out]at vg;go_wp2;exact vg.out _ _ _ _ _ _ _ _ _ _ _ _ _ _ _ _ _ _ _ _ _ _ _ _ _ _ _ _ _ _ _ _ _ _ _ _ _ _ _ _ _ _ _ _ _ _ _ _ _ _ _ _ _ _ _ _ _ _ _ _ _ _ _ _ _ _ _ _ _ _ _ _ _ _ _ _ _ _ _ _ _ _ _ _ _ _ _ _ _ _ _ _ _ _ _ _ _ _ _ _ _ _ _ _ _ _ _ _ _ _ _ _ _ _ _ _ _ _ _ _ _ _ _ _ _ _ _ _ _ _ _ _ _ _ _ _ _ _ _ _ _ _ _ _
variable{w:World}{G:Ft}{v:Value}
def gG(po pw:Nat)(vo vw:Value)(O:Mc.Op):aJ:=aa (blk po (.cells #[vo] 37 (0,0))) (aa (blk pw (.cells #[vw] 36 (0,0))) (aa (stA vo (O.map (·.1))) (inA vw (O.map (·.2)))))
theorem BG{l:List Bs}(h:(stA v l).holds w G): ∃ao cp,v= .slice ao l.length cp∧ ∀k (hk:k<l.length),∃g off,ao=some ⟨g,off,none⟩∧w.cell? ⟨g,off+k,none⟩=some (.string ⟨(l[k]'hk).toArray⟩):=by obtain⟨ao,cp,rfl,_,ha⟩:=cR h;refine⟨ao,cp,rfl,fun k hk=> ?_⟩;obtain⟨g,off,rfl⟩:=ha (by omega);exact⟨g,off,rfl,iY h hk⟩
theorem SU{l:List Int}(h:(inA v l).holds w G): ∃ao cp,v= .slice ao l.length cp∧ ∀k (hk:k<l.length),∃g off,ao=some ⟨g,off,none⟩∧w.cell? ⟨g,off+k,none⟩=some (.int .i64 (l[k]'hk)):=by obtain⟨ao,cp,rfl,_,ha⟩:=cR h;refine⟨ao,cp,rfl,fun k hk=> ?_⟩;obtain⟨g,off,rfl⟩:=ha (by omega);exact⟨g,off,rfl,Bj h hk⟩
theorem r9{po pw:Nat}{vo vw xv:Value}{O:Mc.Op}{ws:List Bs}{R:aJ}{w0 w1:World}{F:Ft}(h:Goes (aa (gG po pw vo vw O) (aa (stA xv ws) R)) w0 F w1): ∃ao co aw cw ax cx,vo= .slice ao O.length co∧vw= .slice aw O.length cw∧xv= .slice ax ws.length cx∧Seen w1 po pw ao co aw cw O ax cx ws:=by
 obtain⟨F1,hF⟩:=h.facts;obtain⟨_,_,⟨_,_,h1,⟨_,_,h2,⟨_,_,h3,h4,_,_⟩,_,_⟩,_,_⟩,⟨_,_,h5,_,_,_⟩,_,_⟩:=hF;obtain⟨ao,co,e1,f1⟩:=BG h3;obtain⟨aw,cw,e2,f2⟩:=SU h4;obtain⟨ax,cx,e3,f3⟩:=BG h5;rw[aF]at e1 e2;refine⟨ao,co,aw,cw,ax,cx,e1,e2,e3, ?_, ?_,fun k hk=> ?_,fun k hk=> ?_,f3⟩
 ·rw[dC h1.1,e1];rfl
 ·rw[dC h2.1,e2];rfl
 ·obtain⟨g,off,e,hc⟩:=f1 k (by rw[aF];exact hk);rw[List.getElem_map]at hc;exact⟨g,off,e,hc⟩
 ·obtain⟨g,off,e,hc⟩:=f2 k (by rw[aF];exact hk);rw[List.getElem_map]at hc;exact⟨g,off,e,hc⟩
section
variable{po pw:Nat}{vo vw xv:Value}{O:Mc.Op}{ws:List Bs}{R:aJ}{w0 w1:World}{F:Ft}{c:Int}{msg:ByteArray}
def Ay(po pw:Nat)(O:Mc.Op)(R:aJ)(w0:World)(F:Ft)(e:Ending)(w2:World):Prop:=e= .returned (.bool true)∧ ∃zg zh,Goes (aa (gG po pw zg zh O) R) w0 F w2
theorem CL(h:Goes (aa (gG po pw vo vw O) (aa (stA xv ws) R)) w0 F w1)(hO:O.length<=100000)(hw:ws.length<=100000){k:Bs}{r:List Bs}(hk:ws=k::r)(hq:quiet k):Calls prog 32 #[.pointer (some ⟨po,0,none⟩), .pointer (some ⟨pw,0,none⟩), .int .i64 c,xv, .string msg] w1 (Ay po pw O R w0 F):=by
 have HG:=hide (show Goes (aa (gG po pw vo vw O) R) w0 F w1 from(h.eq (show _=aa (aa (gG po pw vo vw O) R) (stA xv ws)by ac_rfl)).drop);obtain⟨ao,co,aw,cw,ax,cx,rfl,rfl,rfl,hs⟩:=r9 h;refine ji po pw ao co aw cw O ax cx ws c msg w1 _ hs hO hw ?_;intro v5 v6 v7 v8 v9 v12 yO py mA tX v17 mi jL v20 v21 v22 v23 v24 v25 v26 jM v28 jN v30 v31 v32 v33 jO v35 jP v37 jS v39 v40 v41 jT jU v44 v45 v46 jV jX v49 v50 v51 jY v53 v54 v55 jZ j4 v58 v59 v60 j5 k5 j6 v64 j7 v66 v67 kD kE v70 kF v72 kG kH v75 v76 v77 v78 v79 v80 k6 v82 k7 k8 v85 k9 v87 lf lg lh v91 lj v93 ll lq lu lx ly lz dF dG dH dI dR v105 dS v107 dT v109 dU dV dW dX dY dZ eh v117 eu eA eB eC eD eE v124 eF eG v127 eH eI v130 v131 eJ eK eN eO eP eQ v138 v139 eT v141 eU v143 fe v145 v146 fg v148 fh fl;have qW:0<ws.length:=by rw[hk];simp
 obtain⟨gx,ox,rfl,zl⟩:=hs.xs 0 qW;have c0:w1.cell? ⟨gx,ox,none⟩=some (.string ⟨k.toArray⟩):=by
  have e0:ws[0]'qW=k:=by simp only[hk];rfl
  rw[e0]at zl;exact zl
 have A9:(0:Int)<(ws.length:Int):=by omega
 clear zl hs h hk;generalize vQ O ws=at1;generalize ws.length=wl at*;rcases hq with rfl|rfl|rfl|rfl|rfl
 all_goals simp only[nB,f32,wj];go_wp2;go_ret;exact⟨rfl,_,_,HG.out⟩
end
def BA(po pw:Nat)(vo vw:Value)(l1:List Bs)(l2:List Int):aJ:=aa (blk po (.cells #[vo] 37 (0,0))) (aa (blk pw (.cells #[vw] 36 (0,0))) (aa (stA vo l1) (inA vw l2)))
theorem DM(po pw:Nat)(vo vw:Value)(O:Mc.Op):gG po pw vo vw O=BA po pw vo vw (O.map (·.1)) (O.map (·.2)):=rfl
section
variable{po pw:Nat}{vo vw xv:Value}{O:Mc.Op}{ws:List Bs}{R:aJ}{w0 w1:World}{F:Ft}{c:Int}{msg:ByteArray}{l1:List Bs}{l2:List Int}
structure OpF(w:World)(po pw:Nat)(vo vw:Value)(l1:List Bs)(l2:List Int):Prop where
 po:w.cell? ⟨po,0,none⟩=some vo
 pw:w.cell? ⟨pw,0,none⟩=some vw
 os: ∀k (hk:k<l1.length),∃g off cp,vo= .slice (some ⟨g,off,none⟩) l1.length cp∧w.cell? ⟨g,off+k,none⟩=some (.string ⟨(l1[k]'hk).toArray⟩)∧w.frozen? ⟨g,off+k,none⟩=false
 iw: ∀k (hk:k<l2.length),∃g off cp,vw= .slice (some ⟨g,off,none⟩) l2.length cp∧w.cell? ⟨g,off+k,none⟩=some (.int .i64 (l2[k]'hk))∧w.frozen? ⟨g,off+k,none⟩=false
theorem fG(h:Goes (aa (BA po pw vo vw l1 l2) R) w0 F w1):OpF w1 po pw vo vw l1 l2:=by
 obtain⟨F1,hF⟩:=h.facts;obtain⟨_,_,⟨_,_,h1,⟨_,_,h2,⟨_,_,h3,h4,_,_⟩,_,_⟩,_,_⟩,_,_,_⟩:=hF;refine⟨dC h1.1,dC h2.1,fun k hk=> ?_,fun k hk=> ?_⟩
 ·obtain⟨ao,cp,rfl,_,ha⟩:=cR h3;obtain⟨g,off,rfl⟩:=ha (by omega);exact⟨g,off,cp,rfl,iY h3 hk,dw h3 _⟩
 ·obtain⟨ao,cp,rfl,_,ha⟩:=cR h4;obtain⟨g,off,rfl⟩:=ha (by omega);exact⟨g,off,cp,rfl,Bj h4 hk,dw h4 _⟩
theorem CT(l:List Int)(k:Nat)(y:Int):(flat jt l).set k (.int .i64 y)=flat jt (l.set k y):=by
 have e: ∀l:List Int,flat jt l=l.map fun x=>Value.int .i64 x:=fun l=>by induction l with|nil=>rfl|cons x l ih=>simp only[flat]at ih⊢;rw[List.flatMap_cons,ih];rfl
 rw[e,e,List.map_set]
theorem CU(l:List Bs)(k:Nat)(y:Bs):(flat ke l).set k (.string ⟨y.toArray⟩)=flat ke (l.set k y):=by
 have e: ∀l:List Bs,flat ke l=l.map fun x=>Value.string ⟨x.toArray⟩:=fun l=>by induction l with|nil=>rfl|cons x l ih=>simp only[flat]at ih⊢;rw[List.flatMap_cons,ih];rfl
 rw[e,e,List.map_set]
theorem yC{gw ow cp:Nat}(h:Goes (aa (BA po pw vo (.slice (some ⟨gw,ow,none⟩) l2.length cp) l1 l2) R) w0 F w1){k:Nat}(hk:k<l2.length)(y:Int):Goes (aa (BA po pw vo (.slice (some ⟨gw,ow,none⟩) l2.length cp) l1 (l2.set k y)) R) w0 F (w1.setCell ⟨gw,ow+k,none⟩ (.int .i64 y)):=by
 have h2:=h.eq (show _=aa (inA (.slice (some ⟨gw,ow,none⟩) l2.length cp) l2) (aa (aa (blk po (.cells #[vo] 37 (0,0))) (aa (blk pw (.cells #[.slice (some ⟨gw,ow,none⟩) l2.length cp] 36 (0,0))) (stA vo l1))) R)by unfold BA;ac_rfl);have h3:=h2.trans fun F' h'=>Goes.frame h' fun G hG _=>cO hG k (.int .i64 y) (by omega);rw[CT]at h3;refine h3.eq ?_;unfold BA inA;rw[List.length_set]
 ac_rfl
theorem DN{gw ow cp:Nat}(h:Goes (aa (BA po pw (.slice (some ⟨gw,ow,none⟩) l1.length cp) vw l1 l2) R) w0 F w1){k:Nat}(hk:k<l1.length)(y:Bs):Goes (aa (BA po pw (.slice (some ⟨gw,ow,none⟩) l1.length cp) vw (l1.set k y) l2) R) w0 F (w1.setCell ⟨gw,ow+k,none⟩ (.string ⟨y.toArray⟩)):=by
 have h2:=h.eq (show _=aa (stA (.slice (some ⟨gw,ow,none⟩) l1.length cp) l1) (aa (aa (blk po (.cells #[.slice (some ⟨gw,ow,none⟩) l1.length cp] 37 (0,0))) (aa (blk pw (.cells #[vw] 36 (0,0))) (inA vw l2))) R)by unfold BA;ac_rfl);have h3:=h2.trans fun F' h'=>Goes.frame h' fun G hG _=>cO hG k (.string ⟨y.toArray⟩) (by omega);rw[CU]at h3;refine h3.eq ?_;unfold BA stA;rw[List.length_set]
 ac_rfl
theorem AR{i:Nat}{id:Bs}{c2:Int}(hs:zi O i id c2)(h1:1<ws.length)(hid:ws.getD 1 []=id):vQ O ws=(i:Int)∧i<O.length:=by have hi:i<O.length:=(cz.1 hs.at').1;refine⟨?_,hi⟩;unfold vQ;rw[if_pos h1,hid];exact uE hs _ hi (af _)
theorem JT(h:Goes (aa (gG po pw vo vw O) (aa (stA xv ws) R)) w0 F w1)(hO:O.length<=100000){id a b d:Bs}(hk:ws= [[114,117,110],id,a,b,d]){i:Nat}{c2:Int}(hs:zi O i id c2)(h0:0<=c2):Calls prog 32 #[.pointer (some ⟨po,0,none⟩), .pointer (some ⟨pw,0,none⟩), .int .i64 c,xv, .string msg] w1 (Ay po pw O R w0 F):=by
 have HG:=hide (show Goes (aa (gG po pw vo vw O) R) w0 F w1 from(h.eq (show _=aa (aa (gG po pw vo vw O) R) (stA xv ws)by ac_rfl)).drop);obtain⟨ao,co,aw,cw,ax,cx,rfl,rfl,rfl,y9⟩:=r9 h;obtain⟨mN,hi⟩:=AR (ws:=ws) hs (by rw[hk];simp) (by rw[hk];rfl);refine ji po pw ao co aw cw O ax cx ws c msg w1 _ y9 hO (by rw[hk];simp) ?_;intro v5 v6 v7 v8 v9 v12 yO py mA tX v17 mi jL v20 v21 v22 v23 v24 v25 v26 jM v28 jN v30 v31 v32 v33 jO v35 jP v37 jS v39 v40 v41 jT jU v44 v45 v46 jV jX v49 v50 v51 jY v53 v54 v55 jZ j4 v58 v59 v60 j5 k5 j6 v64 j7 v66 v67 kD kE v70 kF v72 kG kH v75 v76 v77 v78 v79 v80 k6 v82 k7 k8 v85 k9 v87 lf lg lh v91 lj v93 ll lq lu lx ly lz dF dG dH dI dR v105 dS v107 dT v109 dU dV dW dX dY dZ eh v117 eu eA eB eC eD eE v124 eF eG v127 eH eI v130 v131 eJ eK eN eO eP eQ v138 v139 eT v141 eU v143 fe v145 v146 fg v148 fh fl;have qW:0<ws.length:=by rw[hk];simp
 obtain⟨gx,ox,rfl,zl⟩:=y9.xs 0 qW;have c0:w1.cell? ⟨gx,ox,none⟩=some (.string ⟨#[114,117,110]⟩):=by
  have e0:ws[0]'qW= [114,117,110]:=by simp only[hk];rfl
  rw[e0]at zl;exact zl
 have c1:=y9.pw;obtain⟨gw,ow,rfl,Vv⟩:=y9.iw i hi;have c2:w1.cell? ⟨gw,ow+i,none⟩=some (.int .i64 c2):=by
  have e0:(O[i]'hi)=(id,c2):=by have:=hs.at';rw[aY hi]at this;exact Option.some.inj this
  rw[e0]at Vv;exact Vv
 rw[mN];have iA:ws.length=5:=by rw[hk];rfl
 rw[iA];have y7:(i:Int)<(O.length:Int):=by omega
 clear zl Vv y9 h hk hs mN iA qW;simp only[nB,f32,wj];go_wp2;go_ret;exact⟨rfl,_,_,HG.out⟩
theorem JS(h:Goes (aa (gG po pw vo vw O) (aa (stA xv ws) R)) w0 F w1)(hO:O.length<=100000){k id:Bs}(hk:ws= [k,id])(hq:k= [101,114,114]∨k= [103,111,110,101]){i:Nat}(hs:zi O i id c):Calls prog 32 #[.pointer (some ⟨po,0,none⟩), .pointer (some ⟨pw,0,none⟩), .int .i64 c,xv, .string msg] w1 (Ay po pw (O.set i ([],-1)) R w0 F):=by
 have BR:Goes (aa (gG po pw vo vw O) R) w0 F w1:=(h.eq (show _=aa (aa (gG po pw vo vw O) R) (stA xv ws)by ac_rfl)).drop;obtain⟨mN,hi⟩:=AR (ws:=ws) hs (by rw[hk];simp) (by rw[hk];rfl);obtain⟨ao,co,aw,cw,ax,cx,rfl,rfl,rfl,y9⟩:=r9 h;have qb:(O.map (·.2)).length=O.length:=aF _;have rJ:(O.map (·.1)).length=O.length:=aF _;rw[DM]at BR;have f0:=fG BR;obtain⟨gw,ow,cpw,ew,LN,ew3⟩:=f0.iw i (by omega);rw[ew]at BR;have ur:=yC BR (k:=i) (by omega) (-1);rw[<-ew]at ur;have f1:=fG ur;obtain⟨go,oo,cpo,eo,Ri,eo3⟩:=f1.os i (by omega);rw[eo]at ur;have fw:=DN ur (k:=i) (by omega) [];have ea:aw=some ⟨gw,ow,none⟩:=by injection ew
 have eb:ao=some ⟨go,oo,none⟩:=by injection eo
 subst ea eb;have HG:Hid (Ay po pw (O.set i ([],-1)) R w0 F (.returned (.bool true)) ((w1.setCell ⟨gw,ow+i,none⟩ (.int .i64 (-1))).setCell ⟨go,oo+i,none⟩ (.string ⟨#[]⟩))):=by refine⟨rfl, .slice (some ⟨go,oo,none⟩) (O.map (·.1)).length cpo, .slice (some ⟨gw,ow,none⟩) O.length cw, ?_⟩;rw[DM,List.map_set,List.map_set];exact fw
 refine ji po pw _ co _ cw O ax cx ws c msg w1 _ y9 hO (by rw[hk];simp) ?_;intro v5 v6 v7 v8 v9 v12 yO py mA tX v17 mi jL v20 v21 v22 v23 v24 v25 v26 jM v28 jN v30 v31 v32 v33 jO v35 jP v37 jS v39 v40 v41 jT jU v44 v45 v46 jV jX v49 v50 v51 jY v53 v54 v55 jZ j4 v58 v59 v60 j5 k5 j6 v64 j7 v66 v67 kD kE v70 kF v72 kG kH v75 v76 v77 v78 v79 v80 k6 v82 k7 k8 v85 k9 v87 lf lg lh v91 lj v93 ll lq lu lx ly lz dF dG dH dI dR v105 dS v107 dT v109 dU dV dW dX dY dZ eh v117 eu eA eB eC eD eE v124 eF eG v127 eH eI v130 v131 eJ eK eN eO eP eQ v138 v139 eT v141 eU v143 fe v145 v146 fg v148 fh fl;have qW:0<ws.length:=by rw[hk];simp
 obtain⟨gx,ox,rfl,zl⟩:=y9.xs 0 qW;have c0:w1.cell? ⟨gx,ox,none⟩=some (.string ⟨k.toArray⟩):=by
  have e0:ws[0]'qW=k:=by simp only[hk];rfl
  rw[e0]at zl;exact zl
 have c1:=y9.pw;have VH:(O[i]'hi)=(id,c):=by have:=hs.at';rw[aY hi]at this;exact Option.some.inj this
 have c2:w1.cell? ⟨gw,ow+i,none⟩=some (.int .i64 c):=by rw[List.getElem_map,VH]at LN;exact LN
 have c3:=f1.po;have c4:(w1.setCell ⟨gw,ow+i,none⟩ (.int .i64 (-1))).cell? ⟨go,oo+i,none⟩=some (.string ⟨id.toArray⟩):=by rw[List.getElem_map,VH]at Ri;exact Ri
 rw[mN];have iA:ws.length=2:=by rw[hk];rfl
 rw[iA];have y7:(i:Int)<(O.length:Int):=by omega
 clear zl y9 h hk hs mN iA qW BR ur fw f0 f1 ew eo LN Ri rJ qb VH;rcases hq with rfl|rfl
 all_goals simp only[nB,f32,wj];go_wp2;go_ret;exact HG.out
