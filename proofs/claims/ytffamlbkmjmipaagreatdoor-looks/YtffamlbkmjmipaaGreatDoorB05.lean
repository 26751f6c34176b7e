import Derived.Test.YtffamlbkmjmipaaGreatDoorB01
import Derived.OrdersHeld
import Derived.ProofKit
import Derived.Test.YtffamlbkmjmipaaGreatDoorProg
import Derived.WalkSpells
import Derived.RegionTactic
import Derived.ChangeAlike
import Derived.Deep.QuietTactic
import Derived.BigQuiet
import Derived.BigRegion
import Derived.OpenShut
import Derived.StillTail
import Derived.Deep.RegionHeld
set_option maxHeartbeats 8000000
set_option maxRecDepth 100000
namespace Go.Proofs.YtffamlbkmjmipaaGreatDoor
open _root_.Go.Proofs.Tryz
section
variable{P:Program}{ops:Array Oper}{Q:Exit->Act->World->Prop}{md:Region.Mode}{S:World->Prop}
theorem Nu{i:Nat}{oi:Oper}{v:Value}{fuel:Nat}{listed:Array Bool}{a:Act}{w:World}(hi:ops[i]?=some oi)(hy:YieldsIf P ops S oi v a)(hS:S w)(h:wpAnyH P md ops Q S fuel (listed.setIfInBounds i true) (a.put oi.dst v) w)(hs:Region.noSelect ops=true:=by kernel_rfl)(hf:Region.free md ops listed i=true:=by kernel_rfl)(hr:(Region.ready md ops listed).contains i=true:=by kernel_rfl)(hQ: ∀c a w,Q (.panic c) (a.put oi.dst v) w->Q (.panic c) a w:=by exact fun _ _ _ h=>h):wpAnyH P md ops Q S (fuel+1) listed a w:=
 wpAnyH_take hi hs hf hr hQ hy hS h
theorem mR{i:Nat}{oi:Oper}{v:Value}{fuel:Nat}{listed:Array Bool}{a:Act}{w:World}(hi:ops[i]?=some oi)(hS:S w)(h:wpAnyH P md ops Q S fuel (listed.setIfInBounds i true) (a.put oi.dst v) w)(hw:Region.wanted oi (yielded ops a.tmps)=true:=by rfl)(hy: ∀w,S w->(execOp a.eval oi).run P w= .ok (.value v) w:=by intro wz hz;go_simp<;>with_reducible rfl)(hs:Region.noSelect ops=true:=by kernel_rfl)(hf:Region.free md ops listed i=true:=by kernel_rfl)(hr:(Region.ready md ops listed).contains i=true:=by kernel_rfl)(hQ: ∀c a w,Q (.panic c) (a.put oi.dst v) w->Q (.panic c) a w:=by exact fun _ _ _ h=>h):wpAnyH P md ops Q S (fuel+1) listed a w:=
 wpAnyH_take hi hs hf hr hQ (Or.inl ⟨hw,hy⟩) hS h
theorem sT{α:Type}(l:List α)(i:Nat)(a:α):l.toArray.setIfInBounds i a=(l.set i a).toArray:=by simp
theorem s0{α:Type}(x:α)(l:List α)(a:α):(x::l).set 0 a=a::l:=rfl
theorem s1{α:Type}(x:α)(l:List α)(i:Nat)(a:α):(x::l).set (i+1) a=x::l.set i a:=rfl
end
section
open Go.RowKit
section
variable{α:Type}{f:α->List Value}{size:Nat}
def flat(f:α->List Value)(l:List α):List Value:=l.flatMap f
theorem dL(l:List α)(x:α):flat f (l++ [x])=flat f l++f x:=by simp[flat]
theorem pW(l l':List α):flat f (l++l')=flat f l++flat f l':=by simp[flat]
theorem dE(hf: ∀x,(f x).length=size)(l:List α):(flat f l).length=l.length*size:=by
 induction l with
 |nil=>simp[flat]
 |cons c l ih=>rw[flat,List.flatMap_cons,aN];show(f c).length+(flat f l).length=_;rw[hf,ih,List.length_cons,Nat.add_mul,Nat.one_mul,Nat.add_comm]
theorem kP(hf: ∀x,(f x).length=size)(l:List α)(k j:Nat)(hk:k<l.length)(hj:j<size):(flat f l)[k*size+j]?=(f (l[k]'hk))[j]?:=by
 induction l generalizing k with
 |nil=>simp at hk
 |cons c l ih=>
  rw[flat,List.flatMap_cons]
  match k with
  |0=>rw[List.getElem?_append_left (by rw[hf];omega)];simp
  |k+1=>
   have e0:(k+1)*size=k*size+size:=by rw[Nat.add_mul,Nat.one_mul]
   rw[List.getElem?_append_right (by rw[hf];omega),hf];have e:(k+1)*size+j-size=k*size+j:=by omega
   rw[e];exact ih k (by simpa using hk)
theorem j4(hf: ∀x,(f x).length=size)(l:List α)(k j:Nat)(hk:k<l.length)(hj:j<size)(u:Value)(y:α)(hy:f y=(f (l[k]'hk)).set j u):(flat f l).set (k*size+j) u=flat f (l.set k y):=by
 induction l generalizing k with
 |nil=>simp at hk
 |cons c l ih=>
  match k with
  |0=>simp only[flat,List.flatMap_cons,List.set_cons_zero,Nat.zero_mul,Nat.zero_add];rw[List.set_append_left _ _ (by rw[hf];exact hj),hy];rfl
  |k+1=>
   have e0:(k+1)*size=k*size+size:=by rw[Nat.add_mul,Nat.one_mul]
   have h2:=ih k (by simpa using hk) (by simpa using hy);simp only[flat,List.flatMap_cons,List.set_cons_succ]at h2⊢;rw[List.set_append_right _ _ (by rw[hf];omega),hf];have e:(k+1)*size+j-size=k*size+j:=by omega
   rw[e,h2]
theorem uY(hf: ∀x,(f x).length=size)(l:List α)(k:Nat)(hk:k<=l.length):(flat f l).take (k*size)=flat f (l.take k):=by
 conv=>lhs;rw[<-List.take_append_drop k l,pW]
 rw[List.take_append_of_le_length (by rw[dE hf,List.length_take,Nat.min_eq_left hk];exact ae _)];apply List.take_of_length_le;rw[dE hf,List.length_take,Nat.min_eq_left hk];exact ae _
theorem uX(hf: ∀x,(f x).length=size)(l:List α)(k:Nat)(hk:k<=l.length):(flat f l).drop (k*size)=flat f (l.drop k):=by
 conv=>lhs;rw[<-List.take_append_drop k l,pW]
 have e:(flat f (l.take k)).length=k*size:=by rw[dE hf,List.length_take,Nat.min_eq_left hk]
 rw[<-e,List.drop_left]
end
end
namespace aL
open Go.RowKit
def sm(l:List UInt8):Nat->Nat->Int
 |0,_=>0
 |k+1,j=>if k %4=j then(3*sm l k j+((l[k]?.getD 0).toNat:Int)) %256 else sm l k j
theorem gW(l:List UInt8)(k j:Nat):0<=sm l k j∧sm l k j<=255:=by
 induction k with
 |zero=>simp[sm]
 |succ k ih=>
  unfold sm;split
  ·omega
  ·exact ih
theorem mP(l:List UInt8)(k j:Nat)(h:k %4=j):sm l (k+1) j=(3*sm l k j+((l[k]?.getD 0).toNat:Int)) %256:=by rw[sm,if_pos h]
theorem cE(l:List UInt8)(k j:Nat)(h:k %4≠j):sm l (k+1) j=sm l k j:=by rw[sm,if_neg h]
def dg(n:Int):UInt8:=if n<10 then(48+n.toNat).toUInt8 else(87+n.toNat).toUInt8
def two(n:Int):List UInt8:= [dg (n/16),dg (n %16)]
def hex(l:List UInt8):List UInt8:=two (sm l l.length 0)++two (sm l l.length 1)++two (sm l l.length 2)++two (sm l l.length 3)
def line(l:List UInt8):List UInt8:=l++ [32]++hex l
def acc(l:List UInt8)(k:Nat):Nat->List UInt8
 |0=>l++ [32]
 |j+1=>acc l k j++two (sm l k j)
theorem SQ(l:List UInt8)(k j:Nat):(acc l k j).length=l.length+1+2*j:=by
 induction j with
 |zero=>simp[acc]
 |succ j ih=>simp[acc,two,ih];omega
theorem WZ(l:List UInt8)(k j n:Nat)(h:l.length<=n)(hj:j<=4):(acc l k j).length<=n+9:=by rw[SQ];omega
theorem jC(a b:List UInt8):(⟨a.toArray⟩:ByteArray)++(⟨b.toArray⟩:ByteArray)=⟨(a++b).toArray⟩:=by apply ByteArray.ext;simp
theorem J5(s:ByteArray):(⟨s.data.toList.toArray⟩:ByteArray)=s:=by apply ByteArray.ext;simp
theorem AU(x:Int)(h0:0<=x)(h1:x<=15):(⟨#[48,49,50,51,52,53,54,55,56,57,97,98,99,100,101,102]⟩:ByteArray).extract x.toNat (x+1).toNat=⟨[dg x].toArray⟩:=by
 obtain⟨n,rfl⟩:=Int.eq_ofNat_of_zero_le h0;have h:n<16:=by omega
 have e: ∀m:Fin 16,(⟨#[48,49,50,51,52,53,54,55,56,57,97,98,99,100,101,102]⟩:ByteArray).extract ((m.val:Int)).toNat ((m.val:Int)+1).toNat=⟨[dg (m.val:Int)].toArray⟩:=by decide+kernel
 exact e ⟨n,h⟩
theorem tr(l:List UInt8)(k j:Nat):(⟨(acc l k j).toArray⟩:ByteArray)++((⟨#[48,49,50,51,52,53,54,55,56,57,97,98,99,100,101,102]⟩:ByteArray).extract (sm l k j/16).toNat (sm l k j/16+1).toNat++(⟨#[48,49,50,51,52,53,54,55,56,57,97,98,99,100,101,102]⟩:ByteArray).extract (sm l k j %16).toNat (sm l k j %16+1).toNat)=⟨(acc l k (j+1)).toArray⟩:=by have b:=gW l k j;rw[AU _ (by omega) (by omega),AU _ (by omega) (by omega),jC,jC];rfl
theorem Oo(l:List UInt8):acc l l.length 4=line l:=by simp[acc,line,hex,List.append_assoc]
theorem SR(l:List UInt8)(k:Nat)(h:k=l.length):Ending.returned (.string ⟨(acc l k 4).toArray⟩)= .returned (.string ⟨(line l).toArray⟩):=by rw[h,Oo]
theorem Dd(s:ByteArray)(k:Nat):s++(⟨#[32]⟩:ByteArray)=⟨(acc s.data.toList k 0).toArray⟩:=by have h:=jC s.data.toList [32];rw[J5]at h;exact h
theorem nV{a b:ByteArray}(h:a=b):Value.string a= .string b:=by rw[h]
end aL
namespace fA
open Go.RowKit
variable{w:World}{b off len:Nat}
theorem rK{W w1:World}(hb:Below W.heap.size W w1):(∀b o,b<W.heap.size->w1.cell? ⟨b,o,none⟩=W.cell? ⟨b,o,none⟩)∧(∀b o,b<W.heap.size->w1.frozen? ⟨b,o,none⟩=W.frozen? ⟨b,o,none⟩):=
 ⟨fun b o h=>hb.cell (p:=⟨b,o,none⟩) h,fun b o h=>hb.frozen (p:=⟨b,o,none⟩) h⟩
structure fU where
 k:Int
 a:Int
 b:Int
 le:Int
 re:Int
 ca:Int
 bo:Int
 he:Int
 s:ByteArray
def fU.cs(x:fU):Array Value:= #[.int .i64 x.k, .int .i64 x.a, .int .i64 x.b, .int .i64 x.le, .int .i64 x.re, .int .i64 x.ca, .int .i64 x.bo, .int .i64 x.he, .string x.s]
def zD(w:World)(b off len:Nat)(ops:Nat->fU):Prop:=
 ∀i,i<len-> ∀j,j<9->w.cell? ⟨b,off+i*9+j,none⟩=some ((ops i).cs.getD j .nilIface)
theorem zD.below{w':World}{ops:Nat->fU}{B:Nat}(h:zD w b off len ops)(hb:Below B w w')(hB:b<B):zD w' b off len ops:=by intro i hi j hj;rw[hb.cell (p:=⟨b,off+i*9+j,none⟩) hB];exact h i hi j hj
theorem zD.cells{ops:Nat->fU}(h:zD w b off len ops){k:Nat}(hk:k<len):w.cell? ⟨b,off+k*9,none⟩=some (.int .i64 (ops k).k)∧w.cell? ⟨b,off+k*9+1,none⟩=some (.int .i64 (ops k).a)∧w.cell? ⟨b,off+k*9+2,none⟩=some (.int .i64 (ops k).b)∧w.cell? ⟨b,off+k*9+3,none⟩=some (.int .i64 (ops k).le)∧w.cell? ⟨b,off+k*9+4,none⟩=some (.int .i64 (ops k).re)∧w.cell? ⟨b,off+k*9+5,none⟩=some (.int .i64 (ops k).ca)∧w.cell? ⟨b,off+k*9+6,none⟩=some (.int .i64 (ops k).bo)∧w.cell? ⟨b,off+k*9+7,none⟩=some (.int .i64 (ops k).he)∧w.cell? ⟨b,off+k*9+8,none⟩=some (.string (ops k).s):=
 ⟨h k hk 0 (by omega),h k hk 1 (by omega),h k hk 2 (by omega),h k hk 3 (by omega),h k hk 4 (by omega),h k hk 5 (by omega),h k hk 6 (by omega),h k hk 7 (by omega),h k hk 8 (by omega)⟩
def tot(len:Nat)(ops:Nat->fU):Nat->Int
 |0=>len
 |i+1=>tot len ops i+((ops i).s.size:Int)
theorem Gs(len:Nat)(ops:Nat->fU)(i n:Nat):tot len ops i<=tot len ops (i+n):=by
 induction n with
 |zero=>exact Int.le_refl _
 |succ n ih=>show _<=tot len ops (i+n)+((ops (i+n)).s.size:Int);omega
theorem uz(len:Nat)(ops:Nat->fU)(n:Nat):(len:Int)<=tot len ops n:=by have:=Gs len ops 0 n;rw[Nat.zero_add]at this;exact this
theorem cO{a b:Bool}(h:a=b):Ending.returned (.bool a)= .returned (.bool b):=by rw[h]
theorem nT(ao:Option Addr)(b off len cap:Nat)(ops:Nat->fU)(w:World)(bI:0<len->ao=some ⟨b,off,none⟩)(hS:zD w b off len ops)(hb:0<len->b<w.heap.size)(hlen:len<=1000000000000000)(iK: ∀i,i<len->(ops i).s.size<=1000000000000000):Calls prog 18 #[.slice ao len cap] w fun e w'=> ∃r:Bool,e= .returned (.bool r)∧(r=true->tot len ops len<=1048576)∧Below w.heap.size w w':=by
 go_enter func18,ntmps18;go_wp2;go_loopw [3,10] (fun n i wr=> ∃k:Nat,k<=len∧i= .int .i64 k∧n= .int .i64 (tot len ops k)∧(0<=tot len ops k∧tot len ops k<=1000000000000000)∧Below w.heap.size w wr) (fun _ i _=>len-(intOf i).toNat)
 case atStart=>exact⟨0,aJ _,rfl,rfl,by simp[tot];omega,ah _ _⟩
 case round=>
  obtain⟨k,hk,rfl,rfl,⟨ht0,ht1⟩,hB⟩:=hrel;by_cases ay:k<len
  ·obtain rfl:=bI (by omega);have iA:((ops k).s.size:Int)<=1000000000000000:=by have:=iK k ay;omega
   obtain⟨c0,c1,c2,c3,c4,c5,c6,c7,c8⟩:=(hS.below hB (hb (by omega))).cells ay;have cg:=hB.size;clear hS bI iK;by_cases hgt:1048576<tot len ops k+((ops k).s.size:Int)
   ·go_wp2;go_ret;exact⟨_,rfl,fun h=>by simp at h,hB.alloc cg _⟩
   ·go_wp2;go_roundw
    case rel=>exact⟨k+1,by omega,by go_num,rfl,⟨by show(0:Int)<=tot len ops k+_;omega,by show tot len ops k+_<=_;omega⟩,hB.alloc cg _⟩
    case measure=>simp[intOf];omega
  ·obtain rfl:k=len:=by omega
   go_wp2;go_ret;exact⟨_,rfl,fun h=>of_decide_eq_true h,hB⟩
def hd(l:List UInt8):List UInt8:=l.takeWhile (fun c=>c !=32)
theorem TL(s:ByteArray)(j:Nat)(h:j<s.size)(hn:((s[j].toNat:Int)==32)=false)(hr:hd s.data.toList=s.data.toList.take j++hd (s.data.toList.drop j)):hd s.data.toList=s.data.toList.take (j+1)++hd (s.data.toList.drop (j+1)):=by
 have hj:j<s.data.toList.length:=by simpa using h
 have e:s.data.toList[j]=s[j]:=rfl;have cC:(s[j] !=32)=true:=by rw[bne_iff_ne];intro h';rw[h']at hn;simp at hn
 rw[hr,List.drop_eq_getElem_cons hj,fp hj,e];unfold hd;rw[List.takeWhile_cons,if_pos cC,List.append_assoc];rfl
theorem TM(s:ByteArray)(j:Nat)(h:j<s.size)(hn:((s[j].toNat:Int)==32)=true)(hr:hd s.data.toList=s.data.toList.take j++hd (s.data.toList.drop j)):s.extract 0 j=⟨(hd s.data.toList).toArray⟩:=by
 have hj:j<s.data.toList.length:=by simpa using h
 have e:s.data.toList[j]=s[j]:=rfl;have cC: ¬(s[j] !=32)=true:=by rw[bne_iff_ne];intro h';apply h';rw[beq_iff_eq]at hn;exact UInt8.toNat.inj (by simpa using(by omega:s[j].toNat=32))
 rw[hr,List.drop_eq_getElem_cons hj,e];unfold hd;rw[List.takeWhile_cons,if_neg cC,List.append_nil];apply ByteArray.ext;apply Array.ext';simp
theorem XC(s:ByteArray)(hr:hd s.data.toList=s.data.toList.take s.size++hd (s.data.toList.drop s.size)):s=⟨(hd s.data.toList).toArray⟩:=by have e1:s.data.toList.take s.size=s.data.toList:=List.take_of_length_le (by simp);have e2:s.data.toList.drop s.size= []:=List.drop_of_length_le (by simp);rw[hr,e1,e2];apply ByteArray.ext;simp[hd]
theorem K0{a b:ByteArray}(h:a=b):Ending.returned (.string a)= .returned (.string b):=by rw[h]
theorem U3{l:List UInt8}(h:l= []):Ending.returned (.string ⟨#[]⟩)= .returned (.string ⟨l.toArray⟩):=by rw[h]
def sF(x:fU):List UInt8:=if x.k=3 then hd x.s.data.toList else []
theorem pY(x:fU)(w:World)(hs:x.s.size<=1048576):Calls prog 54 #[.agg x.cs] w fun e w'=>e= .returned (.string ⟨(sF x).toArray⟩)∧w'=w.alloc (.cells x.cs 73):=by
 obtain⟨k,a,b,le,re,ca,bo,he,s⟩:=x;by_cases hk:k=3
 ·subst hk;have HF:Hid (sF ⟨3,a,b,le,re,ca,bo,he,s⟩=hd s.data.toList):=rfl;simp only[fU.cs]at*;go_enter func54,ntmps54;go_wp2
  go_loop [3] (fun i=> ∃j:Nat,j<=s.size∧i= .int .i64 j∧Hid (hd s.data.toList=s.data.toList.take j++hd (s.data.toList.drop j))) (fun i=>s.size-(intOf i).toNat)
  case atStart=>exact⟨0,aJ _,rfl,by show _=_;simp⟩
  case round=>
   obtain⟨j,hj,rfl,HR⟩:=hrel;by_cases ay:j<s.size
   ·cases hq:((s[j].toNat:Int)==32)
    ·go_wp2
     go_round
     case rel=>exact⟨j+1,by omega,by go_num,TL s j ay hq HR.out⟩
     case measure=>simp[intOf];omega
    ·go_wp2;go_ret;exact⟨by rw[HF.out];exact K0 (TM s j ay hq HR.out),rfl⟩
   ·obtain rfl:j=s.size:=by omega
    go_wp2;go_ret;exact⟨by rw[HF.out];exact K0 (XC s HR.out),rfl⟩
 ·have jU:(k !=3)=true:=by rw[bne_iff_ne];exact hk
  have HF:Hid (sF ⟨k,a,b,le,re,ca,bo,he,s⟩= []):=if_neg hk;clear hk;simp only[fU.cs]at*;go_enter func54,ntmps54;go_wp2;go_ret;exact⟨U3 HF.out,rfl⟩
end fA
section
open Go
section
variable{P:Program}{ops:Array Oper}{Q:Exit->Act->World->Prop}{md:Region.Mode}{S:World->Prop}{n:Nat}
def kD(P:Program)(md:Region.Mode)(ops:Array Oper)(Q:Exit->Act->World->Prop)(S:World->Prop)(n:Nat):Nat->Array Bool->Act->World->Prop
 |0,listed,a,w=>Region.ready md ops listed= []∧Q .normal a w
 |fuel+1,listed,a,w=>
  (Region.ready md ops listed= []->Q .normal a w)∧
  ∀i∈Region.ready md ops listed,wpOp P ops Q i (fun a' w'=>(i=n∨S w')∧kD P md ops Q S n fuel (listed.setIfInBounds i true) a' w') a w
theorem zB: ∀(fuel:Nat) (listed:Array Bool) (a:Act) (w:World),kD P md ops Q S n fuel listed a w->wpAny P md ops Q fuel listed a w
 |0,_,_,_,h=>h
 |fuel+1,_,_,_,h=>⟨h.1,fun i hi=>wpOp_mono (fun a' w' h'=>zB fuel _ a' w' h'.2) (h.2 i hi)⟩
def Closed(md:Region.Mode)(ops:Array Oper)(listed:Array Bool):Prop:=
 ∀j oj,ops[j]?=some oj->listed.getD j false=true-> ∀e∈oj.after,Region.binds md e=true->listed.getD e.on false=true
def xh(md:Region.Mode)(ops:Array Oper)(listed:Array Bool):Bool:=
 (List.range ops.size).all fun j=> !listed.getD j false||match ops[j]? with|some o=>o.after.all (fun e=> !Region.binds md e||listed.getD e.on false)|none=>true
theorem Lx{listed:Array Bool}(h:xh md ops listed=true):Closed md ops listed:=by intro j oj hj hl e he hb;unfold xh at h;rw[List.all_eq_true]at h;have h1:=h j (List.mem_range.2 (cT.1 hj).1);rw[hl,hj]at h1;simp only[Bool.not_true,Bool.false_or]at h1;have h2:=Array.all_eq_true_iff_forall_mem.1 h1 e he;simpa[hb]using h2
theorem Closed.set{i:Nat}{listed:Array Bool}(hc:Closed md ops listed)(hi:i∈Region.ready md ops listed):Closed md ops (listed.setIfInBounds i true):=by
 obtain⟨_,oi,hoi,u5⟩:=mem_ready.1 hi;intro j oj hj hl e he hb;by_cases VX:i=j
 ·subst VX;have:oj=oi:=Option.some.inj (hj.symm.trans hoi);subst this;exact getD_set_true (u5 e he hb)
 ·rw[getD_set_ne false VX]at hl;exact getD_set_true (hc j oj hj hl e he hb)
def pd(md:Region.Mode)(ops:Array Oper)(i:Nat):Nat->Nat->Bool
 |0,_=>false
 |f+1,j=>match ops[j]? with|some o=>o.after.any (fun e=>Region.binds md e &&(e.on==i||pd md ops i f e.on))|none=>false
theorem zz{i:Nat}{listed:Array Bool}(hc:Closed md ops listed)(hi:listed.getD i false=false): ∀(f j:Nat),pd md ops i f j=true-> ∃oj,ops[j]?=some oj∧ ∃e∈oj.after,Region.binds md e=true∧listed.getD e.on false=false
 |0,_,h=>by cases h
 |f+1,j,h=>by
  unfold pd at h;split at h
  ·rename_i o ho;obtain⟨e,he,hb⟩:=Array.any_eq_true'.1 h;simp only[bZ,Bool.or_eq_true,beq_iff_eq]at hb;refine⟨o,ho,e,he,hb.1, ?_⟩;rcases hb.2 with h1|h1
   ·rw[h1];exact hi
   ·obtain⟨o2,ho2,e2,he2,bN,sH⟩:=zz hc hi f e.on h1;cases hl:listed.getD e.on false with
    |false=>rfl
    |true=>rw[hc e.on o2 ho2 hl e2 he2 bN]at sH;cases sH
  ·cases h
theorem MH{i j f:Nat}{listed:Array Bool}(hc:Closed md ops listed)(hr:i∈Region.ready md ops listed)(hw:pd md ops i f j=true):j∉Region.ready md ops listed:=by intro hj;obtain⟨_,oj,hoj,u5⟩:=mem_ready.1 hj;obtain⟨o',ho',e,he,hb,pF⟩:=zz hc (getD_both (mem_ready.1 hr).1) f j hw;have:o'=oj:=Option.some.inj (ho'.symm.trans hoj);subst this;rw[u5 e he hb]at pF;cases pF
theorem CR{i:Nat}{oi:Oper}{v:Value}(hi:ops[i]?=some oi)(aa7: ∀(j:Nat) (o:Oper) cs b,ops[j]?=some o->o.op≠ .select cs b)(hQ: ∀c a w,Q (.panic c) (a.put oi.dst v) w->Q (.panic c) a w){f:Nat}(hn:pd md ops i f n=true): ∀(fuel:Nat) (listed:Array Bool) (a:Act) (w:World),(∀j oj,ops[j]?=some oj->j≠i->listed.getD j true=false->(∀e∈oj.after,Region.binds md e=true->e.on≠i)->oi.apart ops oj=true)->i∈Region.ready md ops listed->Closed md ops listed->YieldsIf P ops S oi v a->S w->kD P md ops Q S n fuel (listed.setIfInBounds i true) (a.put oi.dst v) w->kD P md ops Q S n (fuel+1) listed a w:=by
 intro fuel
 induction fuel with
 |zero=>
  intro listed a w _ hr _ hy hS H;refine⟨fun h=>(by rw[h]at hr;cases hr),fun j hj=> ?_⟩;by_cases VY:j=i
  ·subst VY;exact hy.wpOp hi hS ⟨.inr hS,H⟩
  ·have h2:=ready_mono hj VY;rw[H.1]at h2;cases h2
 |succ fuel ih=>
  intro listed a w VU hr D2 hy hS H;refine⟨fun h=>(by rw[h]at hr;cases hr),fun j hj=> ?_⟩;by_cases VY:j=i
  ·subst VY;exact hy.wpOp hi hS ⟨.inr hS,H⟩
  ·have NW:j≠n:=fun e=>MH D2 hr hn (e▸hj);have h1:=H.2 j (ready_mono hj VY);obtain⟨aaU,oj,hoj,u5⟩:=mem_ready.1 hj;have acN: ∀e∈oj.after,Region.binds md e=true->e.on≠i:=fun e he hb heq=>by
    have h1:=u5 e he hb;have h0:=(mem_ready.1 hr).1;rw[heq]at h1;rcases Nat.lt_or_ge i listed.size with h'|h'
    ·simp[h']at h0 h1;rw[h0]at h1;cases h1
    ·simp[Array.getElem?_eq_none h']at h1
   have h2:=wpOp_putIf hoj (VU j oj hoj VY aaU acN) (fun cs b=>aa7 i oi cs b hi) (fun cs b=>aa7 j oj cs b hoj) hQ hy h1;have XF: ∀k ok,ops[k]?=some ok->k≠i->(listed.setIfInBounds j true).getD k true=false->
     (∀e∈ok.after,Region.binds md e=true->e.on≠i)->oi.apart ops ok=true:=fun k ok hk Ac hun sI=>by
    refine VU k ok hk Ac ?_ sI;by_cases hjk:j=k
    ·subst hjk;exact aaU
    ·rw[getD_set_ne true hjk]at hun;exact hun
   refine wpOp_mono (fun a' w' h3=> ?_) h2;have hS':S w':=h3.2.1.elim (fun e=>absurd e NW) id;refine⟨.inr hS',ih (listed.setIfInBounds j true) a' w' XF (ready_mono hr (Ne.symm VY)) (D2.set hj) h3.1 hS' ?_⟩;rw[Array.setIfInBounds_comm _ _ VY];exact h3.2.2
theorem Gv{i:Nat}{oi:Oper}{v:Value}{fuel:Nat}{listed:Array Bool}{a:Act}{w:World}(hi:ops[i]?=some oi)(hs:Region.noSelect ops=true)(hf:Region.free md ops listed i=true)(hr:(Region.ready md ops listed).contains i=true)(hn:(xh md ops listed &&pd md ops i ops.size n)=true)(hQ: ∀c a w,Q (.panic c) (a.put oi.dst v) w->Q (.panic c) a w)(hy:YieldsIf P ops S oi v a)(hS:S w)(h:kD P md ops Q S n fuel (listed.setIfInBounds i true) (a.put oi.dst v) w):kD P md ops Q S n (fuel+1) listed a w:=
 CR hi (Region.noSelect_spec hs) hQ (Bool.and_eq_true_iff.1 hn).2 fuel listed a w (Region.free_spec hi hf) (by simpa using hr) (Lx (Bool.and_eq_true_iff.1 hn).1) hy hS h
theorem gX{i:Nat}{oi:Oper}{v:Value}{fuel:Nat}{listed:Array Bool}{a:Act}{w:World}(hi:ops[i]?=some oi)(hS:S w)(h:kD P md ops Q S n fuel (listed.setIfInBounds i true) (a.put oi.dst v) w)(hw:Region.wanted oi (yielded ops a.tmps)=true:=by rfl)(hy: ∀w,S w->(execOp a.eval oi).run P w= .ok (.value v) w:=by intro wz hz;go_simp<;>with_reducible rfl)(hs:Region.noSelect ops=true:=by kernel_rfl)(hf:Region.free md ops listed i=true:=by kernel_rfl)(hr:(Region.ready md ops listed).contains i=true:=by kernel_rfl)(hn:(xh md ops listed &&pd md ops i ops.size n)=true:=by kernel_rfl)(hQ: ∀c a w,Q (.panic c) (a.put oi.dst v) w->Q (.panic c) a w:=by exact fun _ _ _ h=>h):kD P md ops Q S n (fuel+1) listed a w:=
 Gv hi hs hf hr hn hQ (Or.inl ⟨hw,hy⟩) hS h
theorem iu{i:Nat}{o:Oper}{fuel:Nat}{listed:Array Bool}{a:Act}{w:World}(hr:Region.ready md ops listed= [i])(ho:ops[i]?=some o)(h: ∀K':Act->World->Prop,Shut (∀a w,(i=n∨S w)->kD P md ops Q S n fuel (listed.setIfInBounds i true) a w->K' a w)->if Region.wanted o (yielded ops a.tmps)=true then Oper.wp P o a w K' Q else K' (a.put o.dst undef) w):kD P md ops Q S n (fuel+1) listed a w:=by refine⟨fun h0=>(by rw[hr]at h0;cases h0),fun j hj=> ?_⟩;rw[hr]at hj;obtain rfl:=cY.1 hj;exact wpOp_step ho (fun K' hK=>h K' (fun a w hS hW=>hK a w ⟨hS,hW⟩))
theorem qB{listed:Array Bool}{a:Act}{w:World}(hr:Region.ready md ops listed= [])(h:Q .normal a w): ∀fuel,kD P md ops Q S n fuel listed a w
 |0=>⟨hr,h⟩
 |_+1=>⟨fun _=>h,by rw[hr];simp⟩
theorem qC{id:Nat}{a:Act}{w:World}(hm:P.follows .mixedOrders=true)(h:kD P .any ops Q S n ops.size (Array.replicate ops.size false) a w.drew):(Code.region id ops true).wp P Q a w:=
 wp_region_any hm (zB _ _ _ _ h)
