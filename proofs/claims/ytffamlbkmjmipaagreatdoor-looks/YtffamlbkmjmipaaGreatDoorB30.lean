import Derived.Test.YtffamlbkmjmipaaGreatDoorB22
set_option maxHeartbeats 8000000
set_option maxRecDepth 100000
namespace Go.Proofs.YtffamlbkmjmipaaGreatDoor
open _root_.Go.Proofs.Tryz
namespace bJ
open Go.RowKit
theorem Jq(vI:cX)(s:ByteArray)(w:World)(hs:s.size<=4194304)(k a b t:List UInt8)(hw:bW 32 s.data.toList= [k,a,b,t])(gP:(k== [100,111,110,101])=true):Calls prog 55 #[.string s] w (dY s.data.toList w):=by
 have HR:Hid (dJ s.data.toList=aT [k,a,b,t]):=congrArg aT hw;have jn:=cut_small (c:=32) hs;rw[hw]at jn;have la:(⟨a.toArray⟩:ByteArray).size<=4194304:=jn a (by simp);have lb:(⟨b.toArray⟩:ByteArray).size<=4194304:=jn b (by simp);have lt:(⟨t.toArray⟩:ByteArray).size<=4194304:=jn t (by simp);have ie:=pE (lB hs hw 4 rfl);clear hw jn;obtain⟨na,ba,CY⟩: ∃nn xx,cF a=(nn,xx):=⟨_,_,rfl⟩;have NK:Hid (cF a=(na,ba)):=CY;have Ww:=pE (vx CY la);clear CY;obtain⟨nb,bb,Sg⟩: ∃nn xx,cF b=(nn,xx):=⟨_,_,rfl⟩;have Y8:Hid (cF b=(nb,bb)):=Sg;have HCb:=pE (vx Sg lb);clear Sg;obtain⟨tt,Ue⟩: ∃x,m6 t=x:=⟨_,rfl⟩;have WT:Hid (m6 t=tt):=Ue;have HWt:Hid (∀w:World,Calls prog 95 #[.string ⟨t.toArray⟩] w fun e w'=>e= .returned (.bool tt)∧Below w.heap.size w w'):=by intro w;have h:=Gn vI ⟨t.toArray⟩ w lt;have e:(⟨t.toArray⟩:ByteArray).data.toList=t:=rfl;rw[e,Ue]at h;exact h
 clear Ue;go_enter func55,ntmps55;go_wp2_with fail;refine(ie.out _).mono ?_;rintro e w1⟨g,cap,rfl,hg,a8,hb1⟩;have c0:w1.cell? ⟨g,0,none⟩=some (.string ⟨k.toArray⟩):=bL a8 (k:=0) (by simp) rfl;have c1:w1.cell? ⟨g,1,none⟩=some (.string ⟨a.toArray⟩):=bL a8 (k:=1) (by simp) rfl;have c2:w1.cell? ⟨g,2,none⟩=some (.string ⟨b.toArray⟩):=bL a8 (k:=2) (by simp) rfl;have c3:w1.cell? ⟨g,3,none⟩=some (.string ⟨t.toArray⟩):=bL a8 (k:=3) (by simp) rfl;have sG:g<w1.heap.size:=(a8.lt g rfl).2;have dN:=hb1.size;simp only[World.size_alloc]at dN hg;have gS:w.heap.size<w1.heap.size:=by omega
 have cC:w.heap.size≠g:=by omega
 clear dN;obtain⟨r0,r1,r2,r3,r4,f0,f1,f2,f3,f4⟩:=ko hb1;have HB:Hid (Below w.heap.size w w1):=((ah _ _).alloc (ae _) _).trans (hb1.mono (by simp));clear a8 hb1 hg;go_wp2_with fail;refine(Ww.out _).mono ?_;rintro e w'⟨rfl,rfl⟩;go_wp2_with fail;refine(HCb.out _).mono ?_;rintro e w'⟨rfl,rfl⟩;cases ba
 ·go_wp2;refine bodyPost_ret (v:= .tuple #[.agg (Mg.cs ⟨k,na,nb, [],t⟩), .bool false]) (by simp[results,results55,go_sem,Mg.cs, *]) rfl ⟨eh (by rw[HR.out];rw[aT,if_pos (show k=cH from by simpa[cH]using gP),NK.out,Y8.out,WT.out];rfl), ?_⟩;exact dA HB.out (by omega) _ _ _ _ _ _
 cases bb
 ·go_wp2;refine bodyPost_ret (v:= .tuple #[.agg (Mg.cs ⟨k,na,nb, [],t⟩), .bool false]) (by simp[results,results55,go_sem,Mg.cs, *]) rfl ⟨eh (by rw[HR.out];rw[aT,if_pos (show k=cH from by simpa[cH]using gP),NK.out,Y8.out,WT.out];rfl), ?_⟩;exact dA HB.out (by omega) _ _ _ _ _ _
 go_wp2_with fail;refine(HWt.out _).mono ?_;rintro e w2⟨rfl,bN⟩;obtain⟨Kw,A9⟩:=rK bN;have fS:=bN.size
 try simp only[World.size_alloc]at Kw A9 fS
 have acZ:w.heap.size<w2.heap.size:=by omega
 have acy:g<w2.heap.size:=by omega
 have acJ:w1.heap.size<w2.heap.size:=by omega
 have abe:w.heap.size<w1.heap.size+1:=by omega
 have aaN:g<w1.heap.size+1:=by omega
 have aa1:w1.heap.size<w1.heap.size+1:=by omega
 go_wp2;refine bodyPost_ret (v:= .tuple #[.agg (Mg.cs ⟨k,na,nb, [],t⟩), .bool tt]) (by simp[results,results55,go_sem,Mg.cs, *]) rfl ⟨eh (by rw[HR.out];rw[aT,if_pos (show k=cH from by simpa[cH]using gP),NK.out,Y8.out,WT.out];rfl), ?_⟩;exact fL (HB.out.alloc (by omega) _|>.trans (bN.mono (by simp;omega))) _ _ _ _ _
theorem MT(vI:cX)(s:ByteArray)(w:World)(hs:s.size<=4194304)(k a b t:List UInt8)(hw:bW 32 s.data.toList= [k,a,b,t])(gP:(k== [100,111,110,101])=false)(kx:(k== [115,117,98])=true):Calls prog 55 #[.string s] w (dY s.data.toList w):=by
 have HR:Hid (dJ s.data.toList=aT [k,a,b,t]):=congrArg aT hw;have jn:=cut_small (c:=32) hs;rw[hw]at jn;have la:(⟨a.toArray⟩:ByteArray).size<=4194304:=jn a (by simp);have lb:(⟨b.toArray⟩:ByteArray).size<=4194304:=jn b (by simp);have lt:(⟨t.toArray⟩:ByteArray).size<=4194304:=jn t (by simp);have ie:=pE (lB hs hw 4 rfl);clear hw jn;obtain⟨na,ba,CY⟩: ∃nn xx,cF a=(nn,xx):=⟨_,_,rfl⟩;have NK:Hid (cF a=(na,ba)):=CY;have Ww:=pE (vx CY la);clear CY;obtain⟨tb,GS⟩: ∃x,ux b=x:=⟨_,rfl⟩;have HTb:Hid (ux b=tb):=GS;have HWb:Hid (∀w:World,Calls prog 96 #[.string ⟨b.toArray⟩] w fun e w'=>e= .returned (.bool tb)∧Below w.heap.size w w'):=by intro w;have h:=sZ vI ⟨b.toArray⟩ w lb;have e:(⟨b.toArray⟩:ByteArray).data.toList=b:=rfl;rw[e,GS]at h;exact h
 clear GS;obtain⟨tt,Ue⟩: ∃x,m6 t=x:=⟨_,rfl⟩;have WT:Hid (m6 t=tt):=Ue;have HWt:Hid (∀w:World,Calls prog 95 #[.string ⟨t.toArray⟩] w fun e w'=>e= .returned (.bool tt)∧Below w.heap.size w w'):=by intro w;have h:=Gn vI ⟨t.toArray⟩ w lt;have e:(⟨t.toArray⟩:ByteArray).data.toList=t:=rfl;rw[e,Ue]at h;exact h
 clear Ue;go_enter func55,ntmps55;go_wp2_with fail;refine(ie.out _).mono ?_;rintro e w1⟨g,cap,rfl,hg,a8,hb1⟩;have c0:w1.cell? ⟨g,0,none⟩=some (.string ⟨k.toArray⟩):=bL a8 (k:=0) (by simp) rfl;have c1:w1.cell? ⟨g,1,none⟩=some (.string ⟨a.toArray⟩):=bL a8 (k:=1) (by simp) rfl;have c2:w1.cell? ⟨g,2,none⟩=some (.string ⟨b.toArray⟩):=bL a8 (k:=2) (by simp) rfl;have c3:w1.cell? ⟨g,3,none⟩=some (.string ⟨t.toArray⟩):=bL a8 (k:=3) (by simp) rfl;have sG:g<w1.heap.size:=(a8.lt g rfl).2;have dN:=hb1.size;simp only[World.size_alloc]at dN hg;have gS:w.heap.size<w1.heap.size:=by omega
 have cC:w.heap.size≠g:=by omega
 clear dN;obtain⟨r0,r1,r2,r3,r4,f0,f1,f2,f3,f4⟩:=ko hb1;have HB:Hid (Below w.heap.size w w1):=((ah _ _).alloc (ae _) _).trans (hb1.mono (by simp));clear a8 hb1 hg;go_wp2_with fail;refine(Ww.out _).mono ?_;rintro e w'⟨rfl,rfl⟩;cases ba
 ·go_wp2;refine bodyPost_ret (v:= .tuple #[.agg (Mg.cs ⟨k,na,0,b,t⟩), .bool false]) (by simp[results,results55,go_sem,Mg.cs, *]) rfl ⟨eh (by rw[HR.out];rw[aT,if_neg (show¬k=cH from by simpa[cH]using gP),if_pos (show k=fC from by simpa[fC]using kx),NK.out,HTb.out,WT.out];rfl), ?_⟩;exact dA HB.out (by omega) _ _ _ _ _ _
 go_wp2_with fail;refine(HWb.out _).mono ?_;rintro e w2⟨rfl,bN⟩;obtain⟨Kw,A9⟩:=rK bN;have fS:=bN.size
 try simp only[World.size_alloc]at Kw A9 fS
 have acZ:w.heap.size<w2.heap.size:=by omega
 have acy:g<w2.heap.size:=by omega
 have acJ:w1.heap.size<w2.heap.size:=by omega
 have abe:w.heap.size<w1.heap.size+1:=by omega
 have aaN:g<w1.heap.size+1:=by omega
 have aa1:w1.heap.size<w1.heap.size+1:=by omega
 cases tb
 ·go_wp2;refine bodyPost_ret (v:= .tuple #[.agg (Mg.cs ⟨k,na,0,b,t⟩), .bool false]) (by simp[results,results55,go_sem,Mg.cs, *]) rfl ⟨eh (by rw[HR.out];rw[aT,if_neg (show¬k=cH from by simpa[cH]using gP),if_pos (show k=fC from by simpa[fC]using kx),NK.out,HTb.out,WT.out];rfl), ?_⟩;exact fL (HB.out.alloc (by omega) _|>.trans (bN.mono (by simp;omega))) _ _ _ _ _
 go_wp2_with fail;refine(HWt.out _).mono ?_;rintro e w3⟨rfl,mh⟩;obtain⟨Xw,hf3⟩:=rK mh;have Sk:=mh.size
 try simp only[World.size_alloc]at Xw hf3 Sk
 have adX:w.heap.size<w3.heap.size:=by omega
 have adE:g<w3.heap.size:=by omega
 have adP:w1.heap.size<w3.heap.size:=by omega
 have adm:w.heap.size<w1.heap.size+1:=by omega
 have adh:g<w1.heap.size+1:=by omega
 have adj:w1.heap.size<w1.heap.size+1:=by omega
 go_wp2;refine bodyPost_ret (v:= .tuple #[.agg (Mg.cs ⟨k,na,0,b,t⟩), .bool tt]) (by simp[results,results55,go_sem,Mg.cs, *]) rfl ⟨eh (by rw[HR.out];rw[aT,if_neg (show¬k=cH from by simpa[cH]using gP),if_pos (show k=fC from by simpa[fC]using kx),NK.out,HTb.out,WT.out];rfl), ?_⟩;exact fL ((HB.out.alloc (by omega) _|>.trans (bN.mono (by simp;omega))).trans (mh.mono (by omega))) _ _ _ _ _
