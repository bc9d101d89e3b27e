/-
  How a posting is read from its text, plain; no statement of the program stands here.
-/
import Derived.Lib.AtoiAll
import Derived.Lib.AtoiTie
import Derived.Lib.ItoaMem
import Derived.Test.YtgpcinihgofmfaaGreatDoorSt12
import Derived.Lib.ItoaLen
import Derived.Test.YtgpcinihgofmfaaGreatDoorSt00
import Derived.Test.YtgpcinihgofmfaaGreatDoorSt04
import Derived.Shelf.Strings.Builder1
import Derived.Shelf.Strings.Search1
import Derived.Test.YtgpcinihgofmfaaGreatDoorProg
namespace Go.Proofs.YtgpcinihgofmfaaGreatDoor
open Go.RowKit
def dZ (c:UInt8):Bool:=decide (48≤c.toNat) && decide (c.toNat≤57)
def qD (c:UInt8):Bool:=Bn c || (dZ c || decide (c.toNat=45))
theorem jk:∀(a b:List UInt8) (acc:Nat),Lib.decFrom acc (a++b)=(Lib.decFrom acc a).bind fun x=>Lib.decFrom x b
 | [],b,acc=>rfl
 | c :: r,b,acc=>by
  simp only [List.cons_append,Lib.decFrom]
  cases h:Lib.digitVal c with
  | none=>rfl
  | some d=>simp only [jk r b]
theorem mx (d:Nat) (h:d<10):dZ (UInt8.ofNat (48+d))=true∧(UInt8.ofNat (48+d)).toNat=48+d:=by
 have e:(UInt8.ofNat (48+d)).toNat=48+d:=by simp;omega
 refine ⟨?_,e⟩;unfold dZ;rw [e,decide_eq_true (by omega),decide_eq_true (by omega)];rfl
theorem lY (d:Nat) (h:d<10):Lib.digitVal (UInt8.ofNat (48+d))=some d:=by
 unfold Lib.digitVal;rw [(mx d h).2,if_pos (by omega)];congr 1
 omega
theorem nI (u:Nat):∀acc,∃k,Lib.decFrom acc (Lib.decDigits u)=some (acc*k+u):=by
 induction u using Nat.strongRecOn with
 | _ u ih =>
  intro acc;by_cases h:u<10
  · rw [Lib.decDigits_one h];exact ⟨10,by simp only [Lib.decFrom,lY u h]⟩
  · obtain ⟨k,hk⟩:=ih (u / 10) (by omega) acc;rw [Lib.decDigits.eq_1 u,dif_neg h,jk,hk];refine ⟨k*10,?_⟩;simp only [Option.bind_some,Lib.decFrom,lY (u % 10) (by omega)];congr 1
    rw [Nat.add_mul,← Nat.mul_assoc];omega
theorem fj (u:Nat):(Lib.decDigits u).all dZ=true:=by
 induction u using Nat.strongRecOn with
 | _ u ih =>
  by_cases h:u<10
  · rw [Lib.decDigits_one h];simp only [List.all_cons,List.all_nil,(mx u h).1,Bool.and_true]
  · rw [Lib.decDigits.eq_1 u,dif_neg h,List.all_append,ih (u / 10) (by omega)];simp only [List.all_cons,List.all_nil,(mx (u % 10) (by omega)).1,Bool.and_true]
theorem jE (u:Nat):Lib.decDigits u≠[]:=by
 intro h;have h1:=Lib.nDigits_pos u;rw [← Lib.decDigits_length,h] at h1;simp at h1
theorem gy (u:Nat):Lib.decNat (Lib.decDigits u)=some u:=by
 obtain ⟨k,hk⟩:=nI u 0;unfold Lib.decNat;rw [if_neg (by simpa using jE u),hk];simp
theorem iz (u:Nat) (h:u≤10000000):(Lib.decDigits u).length≤8:=by
 have e:∀(k u:Nat),u<10 ^ k→1≤k→Lib.nDigits u≤k:=by
  intro k;induction k with
  | zero=>intro u _ h;omega
  | succ k ih =>
   intro u hu _;by_cases h9:u<10
   · rw [Lib.nDigits_small h9];omega
   · rw [Lib.nDigits_big h9];have h10:u / 10<10 ^ k:=by rw [Nat.pow_succ] at hu;omega
     have hk:1≤k:=by
      rcases Nat.eq_zero_or_pos k with rfl | h'
      · simp at h10;omega
      · exact h'
     have:=ih (u / 10) h10 hk;omega
 rw [Lib.decDigits_length];exact e 8 u (by omega) (by omega)
theorem wO (n:Int) (h0:-10000000≤n) (h1:n≤10000000):Lib.atoiAll (Lib.itoa n)=.ok n:=by
 have hlen:(Lib.itoa n).length≤18:=by
  by_cases hn:n<0
  · obtain ⟨u,rfl⟩:∃u:Nat,n=-(u:Int):=⟨(-n).toNat,by omega⟩;rw [Lib.itoa_neg u (by omega),List.length_cons];have:=iz u (by omega);omega
  · obtain ⟨u,rfl⟩:∃u:Nat,n=u:=⟨n.toNat,by omega⟩;rw [Lib.itoa_nonneg];have:=iz u (by omega);omega
 rw [Lib.atoiAll_short _ hlen];have:Lib.atoi (Lib.itoa n)=some n:=by
  by_cases hn:n<0
  · obtain ⟨u,rfl⟩:∃u:Nat,n=-(u:Int):=⟨(-n).toNat,by omega⟩;rw [Lib.itoa_neg u (by omega)];simp only [Lib.atoi,gy];rfl
  · obtain ⟨u,rfl⟩:∃u:Nat,n=u:=⟨n.toNat,by omega⟩;rw [Lib.itoa_nonneg];cases hd:Lib.decDigits u with
    | nil=>exact absurd hd (jE u)
    | cons c r =>
     have hc:dZ c=true:=by
      have:=fj u;rw [hd] at this;simp only [List.all_cons,Bool.and_eq_true] at this;exact this.1
     simp only [dZ,Bool.and_eq_true,decide_eq_true_eq] at hc;have e1:(c == 45)=false:=by
      rw [beq_eq_false_iff_ne];rintro rfl;exact absurd hc.1 (by decide)
     have e2:(c == 43)=false:=by
      rw [beq_eq_false_iff_ne];rintro rfl;exact absurd hc.1 (by decide)
     simp only [Lib.atoi,e1,e2];rw [← hd,gy];rfl
 rw [this];rfl
theorem vu (n:Int):∀c ∈ Lib.itoa n,qD c=true:=by
 intro c hc;unfold Lib.itoa at hc;have hd:∀u,c ∈ Lib.decDigits u→qD c=true:=by
  intro u hu;have:=List.all_eq_true.1 (fj u) c hu;unfold qD;rw [this];simp
 split at hc
 · rcases List.mem_cons.1 hc with rfl | h
   · decide
   · exact hd _ h
 · exact hd _ hc
end Go.Proofs.YtgpcinihgofmfaaGreatDoor

namespace Go.Proofs.YtgpcinihgofmfaaGreatDoor
open Go.RowKit
theorem xi {l:List UInt8} {c:UInt8} (h:∀x ∈ l,qD x=true) (hc:qD c=false):c ∉ l:=fun hm=>by rw [h c hm] at hc;cases hc
def dv (l:List UInt8):Nat:=l.foldl (fun a c=>a*10+(c.toNat - 48)) 0
theorem qv (l:List UInt8) (c:UInt8):dv (l++[c])=dv l*10+(c.toNat - 48):=by simp [dv]
theorem ur:∀(l:List UInt8) (a:Nat),l.all dZ=true→Lib.decFrom a l=some (l.foldl (fun a c=>a*10+(c.toNat - 48)) a)
 | [],a,_=>rfl
 | c :: r,a,h=>by
  simp only [List.all_cons,Bool.and_eq_true] at h
  have hc:=h.1
  simp only [dZ,Bool.and_eq_true,decide_eq_true_eq] at hc
  simp only [Lib.decFrom,Lib.digitVal,if_pos hc,List.foldl_cons]
  exact ur r _ h.2
theorem ps (u:Nat):dv (Lib.decDigits u)=u:=by
 have h1:=ur _ 0 (fj u);have h2:=gy u;unfold Lib.decNat at h2;rw [if_neg (by simpa using jE u)] at h2;exact Option.some.inj (h1.symm.trans h2)
theorem pr:∀(l:List UInt8),l.all dZ=true→dv l<10 ^ l.length:=by
 intro l;suffices h:∀(l:List UInt8) (a k:Nat),l.all dZ=true→a<10 ^ k→l.foldl (fun a c=>a*10+(c.toNat - 48)) a<10 ^ (k+l.length) by
  intro hl;have:=h l 0 0 hl (by decide);simpa [dv] using this
 intro l;induction l with
 | nil=>intro a k _ ha;simpa using ha
 | cons c r ih =>
  intro a k h ha;simp only [List.all_cons,Bool.and_eq_true] at h;have hc:=h.1;simp only [dZ,Bool.and_eq_true,decide_eq_true_eq] at hc;have:=ih (a*10+(c.toNat - 48)) (k+1) h.2 (by rw [Nat.pow_succ];omega);simp only [List.foldl_cons,List.length_cons];rw [show k+(r.length+1)=k+1+r.length by omega];exact this
theorem lX (u:Nat):1≤u→∀r,Lib.decDigits u≠48 :: r:=by
 induction u using Nat.strongRecOn with
 | _ u ih =>
  intro hu r hr;by_cases h:u<10
  · rw [Lib.decDigits_one h] at hr;have e:=(List.cons.inj hr).1;have:=congrArg UInt8.toNat e;rw [(mx u h).2] at this;have e48:(48:UInt8).toNat=48:=by decide
    omega
  · rw [Lib.decDigits.eq_1 u,dif_neg h] at hr;cases hd:Lib.decDigits (u / 10) with
    | nil=>exact jE _ hd
    | cons x y =>
     rw [hd,List.cons_append] at hr;have e:=(List.cons.inj hr).1;subst e;exact ih (u / 10) (by omega) (by omega) y hd
theorem m6 (m:Int) (h0:-10000000≤m) (h1:m≤10000000):(∃u:Nat,1≤u∧m=-(u:Int)∧Lib.itoa m=45 :: Lib.decDigits u∧(Lib.decDigits u).length≤8)∨(∃u:Nat,m=(u:Int)∧Lib.itoa m=Lib.decDigits u∧(Lib.decDigits u).length≤8):=by
 by_cases hn:m<0
 · obtain ⟨u,rfl⟩:∃u:Nat,m=-(u:Int):=⟨(-m).toNat,by omega⟩;exact Or.inl ⟨u,by omega,rfl,Lib.itoa_neg u (by omega),iz u (by omega)⟩
 · obtain ⟨u,rfl⟩:∃u:Nat,m=u:=⟨m.toNat,by omega⟩;exact Or.inr ⟨u,rfl,Lib.itoa_nonneg u,iz u (by omega)⟩
end Go.Proofs.YtgpcinihgofmfaaGreatDoor

namespace Go.Proofs.YtgpcinihgofmfaaGreatDoor
open Go.RowKit
def cQ (e:ae):Bool:=dr e.1 e.2.1 e.2.2.1 e.2.2.2.1 e.2.2.2.2
def iI (L:List ae):Nat→Bool
 | 0=>match L[0]? with
  | none=>true
  | some e=>cQ e
 | j+1=>match L[j+1]?,L[j]? with
  | some e,some p=>cQ e && decide (e.2.1=p.2.1+1)
  | _,_=>true
def dX (L:List ae) (k:Nat):Bool:=(List.range k).all (iI L)
def bF (L:List ae):Bool:=decide (1≤L.length) && (decide (L.length≤12) && dX L L.length)
theorem sG (L:List ae) (k:Nat):dX L (k+1)=(dX L k && iI L k):=by
 simp [dX,List.range_succ]
theorem gZ {L:List ae} {k:Nat} (h:dX L k=true) (h1:iI L k=true):dX L (k+1)=true:=by rw [sG,h,h1];rfl
theorem xG {L:List ae} {k:Nat} (hk:k<L.length) (h:iI L k=false):dX L L.length=false:=by
 unfold dX;rw [List.all_eq_false];exact ⟨k,by simpa using hk,by simp [h]⟩
theorem lc {L:List ae} {e:ae} (h:L[0]?=some e):iI L 0=cQ e:=by simp only [iI,h]
theorem xH {L:List ae} {k:Nat} {e:ae} (h:L[k]?=some e) (hv:cQ e=false):k=0∨(∃p,L[k - 1]?=some p)→iI L k=false:=by
 intro hp;cases k with
 | zero=>rw [lc h,hv]
 | succ j =>
  rcases hp with hp | ⟨p,hp⟩
  · omega
  · simp only [Nat.add_sub_cancel] at hp;simp only [iI,h,hp,hv,Bool.false_and]
theorem ld {L:List ae} {k:Nat} {e:ae} (h:L[k]?=some e) (hv:cQ e=false):iI L k=false:=by
 apply xH h hv;cases k with
 | zero=>exact Or.inl rfl
 | succ j =>
  have:=(List.getElem?_eq_some_iff.1 h).1;exact Or.inr ⟨L[j],by simp only [Nat.add_sub_cancel];exact List.getElem?_eq_getElem (by omega)⟩
theorem gG {L:List ae} {j:Nat} {e p:ae} (h:L[j+1]?=some e) (hp:L[j]?=some p):iI L (j+1)=(cQ e && decide (e.2.1=p.2.1+1)):=by simp only [iI,h,hp]
theorem mG {L:List ae} {k j:Nat} {e:ae} (h:dX L k=true) (hj:j<k) (he:L[j]?=some e):cQ e=true:=by
 unfold dX at h;have h1:=List.all_eq_true.1 h j (by simpa using hj);cases hv:cQ e with
 | true=>rfl
 | false=>rw [ld he hv] at h1;cases h1
theorem rW {L:List ae} (h:L.length<1):bF L=false:=by unfold bF;rw [decide_eq_false (by omega)];rfl
theorem wB {L:List ae} (h:12<L.length):bF L=false:=by unfold bF;rw [decide_eq_false (p:=L.length≤12) (by omega)];simp
theorem mu {L:List ae} {k:Nat} (hk:k<L.length) (h:iI L k=false):bF L=false:=by unfold bF;rw [xG hk h];simp
theorem yZ {L:List ae} (h1:1≤L.length) (h2:L.length≤12) (h:dX L L.length=true):bF L=true:=by unfold bF;rw [decide_eq_true h1,decide_eq_true h2,h];rfl
theorem ze {L:List ae} (h:dX L L.length=true):bF L=(decide (1≤L.length) && decide (L.length≤12)):=by unfold bF;rw [h];simp
theorem dg {L:List ae} (h:bF L=true):1≤L.length∧L.length≤12∧∀e ∈ L,cQ e=true:=by
 simp only [bF,Bool.and_eq_true,decide_eq_true_eq] at h;refine ⟨h.1,h.2.1,fun e he=>?_⟩;obtain ⟨j,hj⟩:=List.mem_iff_getElem?.1 he;exact mG h.2.2 (List.getElem?_eq_some_iff.1 hj).1 hj
def fI (e:ae):List UInt8:=e.1.data.toList++32 :: (Lib.itoa e.2.1++32 :: (Lib.itoa e.2.2.1++32 :: (Lib.itoa e.2.2.2.2++32 :: (Lib.itoa (e.2.2.2.1.size:Int)++32 :: e.2.2.2.1.data.toList))))
def aU:List ae→List UInt8
 | []=>[]
 | e :: r=>fI e++aU r
def de (L:List ae):ByteArray:=if bF L=true then ⟨(Lib.itoa ((aU L).length:Int)++32 :: (aU L++[10])).toArray⟩ else ⟨#[]⟩
theorem qq (A B:List ae):aU (A++B)=aU A++aU B:=by
 induction A with
 | nil=>rfl
 | cons l r ih=>simp [aU,ih]
theorem nz {L:List ae} {k:Nat} {l:ae} (h:L[k]?=some l):aU (L.take (k+1))=aU (L.take k)++fI l:=by
 rw [List.take_add_one,h,qq];simp [aU]
theorem dH {e:ae} (h:cQ e=true):e.1.size≤8∧1≤e.2.1∧e.2.1≤100000∧1≤e.2.2.1∧e.2.2.1≤3∧-1000000≤e.2.2.2.2∧e.2.2.2.2≤1000000∧e.2.2.2.1.size≤60:=by
 obtain ⟨k,q,d,t,n⟩:=e;unfold cQ at h;have hk:k.size≤8:=by
  rcases Nat.lt_or_ge 8 k.size with h' | h'
  · rw [jg (rH k h')] at h;cases h
  · exact h'
 have a1:1≤q:=by
  rcases Int.lt_or_le q 1 with h' | h'
  · rw [qs h'] at h;cases h
  · exact h'
 have a2:q≤100000:=by
  rcases Int.lt_or_le 100000 q with h' | h'
  · rw [qr h'] at h;cases h
  · exact h'
 have a3:-1000000≤n:=by
  rcases Int.lt_or_le n (-1000000) with h' | h'
  · rw [qu h'] at h;cases h
  · exact h'
 have a4:n≤1000000:=by
  rcases Int.lt_or_le 1000000 n with h' | h'
  · rw [qt h'] at h;cases h
  · exact h'
 have a5:t.size≤60:=by
  rcases Nat.lt_or_ge 60 t.size with h' | h'
  · rw [tQ h'] at h;cases h
  · exact h'
 have hk':ei k=true:=by
  cases hk':ei k with
  | true=>rfl
  | false=>rw [jg hk'] at h;cases h
 rw [dp hk' a1 a2 a3 a4 a5] at h;have a6:1≤d∧d≤3:=by
  by_cases d1:d=1
  · omega
  by_cases d2:d=2
  · omega
  by_cases d3:d=3
  · omega
  rw [qd d1 d2 d3] at h;cases h
 exact ⟨hk,a1,a2,a6.1,a6.2,a3,a4,a5⟩
theorem aK (s:ByteArray):s.data.toList.length=s.size:=by rw [Array.length_toList];rfl
theorem yW {e:ae} (h:cQ e=true):(fI e).length≤160:=by
 obtain ⟨h1,h2,h3,h4,h5,h6,h7,h8⟩:=dH h;have e1:=Lib.itoa_length_le e.2.1 (by omega) (by omega);have e2:=Lib.itoa_length_le e.2.2.1 (by omega) (by omega);have e3:=Lib.itoa_length_le e.2.2.2.2 (by omega) (by omega);have e4:=Lib.itoa_length_le (e.2.2.2.1.size:Int) (by omega) (by omega);simp only [fI,List.length_append,List.length_cons,aK];omega
theorem jD:∀(L:List ae),(∀e ∈ L,cQ e=true)→(aU L).length≤160*L.length
 | [],_=>by simp [aU]
 | l :: r,h=>by
  have h1:=yW (h l (by simp))
  have h2:=jD r (fun x hx=>h x (by simp [hx]))
  simp only [aU,List.length_append,List.length_cons]
  omega
theorem pm {L:List ae} (h:bF L=false):de L=⟨#[]⟩:=by unfold de;rw [h];simp
theorem nu {L:List ae} (h:bF L=true):de L=⟨(Lib.itoa ((aU L).length:Int)++32 :: (aU L++[10])).toArray⟩:=by unfold de;rw [if_pos h]
end Go.Proofs.YtgpcinihgofmfaaGreatDoor

namespace Go.Proofs.YtgpcinihgofmfaaGreatDoor
open Go.RowKit
def dJ (n:Int) (l:List UInt8):List UInt8 × List UInt8:=if n<0∨(l.length:Int)<n then ([],l) else (l.take n.toNat,l.drop n.toNat)
def gE (l:List UInt8):List UInt8 × List UInt8:=if (32:UInt8) ∈ l then (l.takeWhile (· != 32),(l.dropWhile (· != 32)).drop 1) else ([],l.drop 1)
def fY (l:List UInt8):Int × List UInt8:=((match Lib.atoiAll (gE l).1 with | .ok v=>v | _=>0),(gE l).2)
def rV (l:List UInt8):ae × List UInt8 :=
 let k:=gE l
 let q:=fY k.2
 let d:=fY q.2
 let n:=fY d.2
 let z:=fY n.2
 let t:=dJ z.1 z.2
 ((⟨k.1.toArray⟩,q.1,d.1,⟨t.1.toArray⟩,n.1),t.2)
def fW:Nat→Int→List UInt8→List ae
 | 0,_,_=>[]
 | k+1,s,l=>if s<(l.length:Int) then (rV l).1 :: fW k s (rV l).2 else []
theorem oC:∀(u r:List UInt8),(32:UInt8) ∉ u→(u++32 :: r).takeWhile (· != 32)=u∧(u++32 :: r).dropWhile (· != 32)=32 :: r
 | [],r,_=>by simp
 | x :: u,r,h=>by
  have h1:(x != 32)=true:=by simpa using fun e:x=32=>h (by simp [e])
  have h2:=oC u r (fun hm=>h (by simp [hm]))
  constructor
  · simp only [List.cons_append,List.takeWhile_cons,h1,if_true,h2.1]
  · simp only [List.cons_append,List.dropWhile_cons,h1,if_true,h2.2]
theorem iO (u r:List UInt8) (h:(32:UInt8) ∉ u):gE (u++32 :: r)=(u,r):=by
 obtain ⟨h1,h2⟩:=oC u r h;rw [gE,if_pos (by simp),h1,h2];rfl
theorem ul (n:Int):(32:UInt8) ∉ Lib.itoa n:=xi (vu n) (by decide)
theorem kE (n:Int) (r:List UInt8) (h0:-10000000≤n) (h1:n≤10000000):fY (Lib.itoa n++32 :: r)=(n,r):=by
 rw [fY,iO _ _ (ul n),wO n h0 h1]
theorem ln (u r:List UInt8):dJ (u.length:Int) (u++r)=(u,r):=by
 rw [dJ,if_neg (by simp;omega)];simp
theorem yD {s:ByteArray} (h:ei s=true):(32:UInt8) ∉ s.data.toList:=by
 intro hm;simp only [ei,Bool.and_eq_true] at h;have:=List.all_eq_true.1 h.2.2 32 hm;exact absurd this (by decide)
theorem uo {e:ae} (h:cQ e=true):ei e.1=true:=by
 unfold cQ at h;cases hk:ei e.1 with
 | true=>rfl
 | false=>rw [jg hk] at h;cases h
theorem Am {e:ae} (h:cQ e=true) (r:List UInt8):rV (fI e++r)=(e,r):=by
 obtain ⟨h1,h2,h3,h4,h5,h6,h7,h8⟩:=dH h;have hk:=yD (uo h);obtain ⟨k,q,d,t,n⟩:=e;simp only at h1 h2 h3 h4 h5 h6 h7 h8 hk;have e0:fI (k,q,d,t,n)++r=k.data.toList++32 :: (Lib.itoa q++32 :: (Lib.itoa d++32 :: (Lib.itoa n++32 :: (Lib.itoa (t.size:Int)++32 :: (t.data.toList++r))))):=by simp [fI]
 rw [e0,rV];simp only [iO _ _ hk,kE q _ (by omega) (by omega),kE d _ (by omega) (by omega),kE n _ (by omega) (by omega),kE (t.size:Int) _ (by omega) (by omega)];rw [show (t.size:Int)=(t.data.toList.length:Int) by rw [aK]];rw [ln]
theorem nA (e:ae):1≤(fI e).length:=by simp [fI];omega
theorem sa:∀(L:List ae) (k:Nat) (r:List UInt8),(∀e ∈ L,cQ e=true)→L.length≤k→fW k (r.length:Int) (aU L++r)=L
 | [],0,r,_,_=>rfl
 | [],k+1,r,_,_=>by simp [fW,aU]
 | e :: L,0,r,_,h=>by simp at h
 | e :: L,k+1,r,ha,h=>by
  have hp:=nA e
  have e0:aU (e :: L)++r=fI e++(aU L++r):=by simp [aU]
  rw [e0,fW,if_pos (by simp;omega),Am (ha e (by simp))]
  simp only
  rw [sa L k r (fun x hx=>ha x (by simp [hx])) (by simpa using h)]
def aY (L:List ae):List UInt8:=Lib.itoa ((aU L).length:Int)++32 :: (aU L++[10])
def eO (l:List UInt8) (L:List ae):Prop:=bF L=true∧∃r,l=aY L++r
theorem dO {L:List ae} (h:bF L=true):(aU L).length≤1920:=by
 obtain ⟨h1,h2,h3⟩:=dg h;have:=jD L h3;omega
theorem lF {l:List UInt8} {L:List ae} (h:eO l L):(fY l).1=((aU L).length:Int)∧∃r,(fY l).2=aU L++10 :: r∧fW 12 (((fY l).2.length:Int) - (fY l).1) (fY l).2=L:=by
 obtain ⟨hd,r,rfl⟩:=h;obtain ⟨h1,h2,h3⟩:=dg hd;have hs:=dO hd;have e0:aY L++r=Lib.itoa ((aU L).length:Int)++32 :: (aU L++10 :: r):=by simp [aY]
 rw [e0,kE _ _ (by omega) (by omega)];refine ⟨rfl,r,rfl,?_⟩;have e1:((aU L++10 :: r).length:Int) - ((aU L).length:Int)=((10 :: r).length:Int):=by simp;omega
 simp only [e1];exact sa L 12 (10 :: r) h3 h2
theorem vS {l:List UInt8} {L M:List ae} (h:eO l L) (k:eO l M):L=M:=by
 obtain ⟨_,_,_,h1⟩:=lF h;obtain ⟨_,_,_,k1⟩:=lF k;exact h1.symm.trans k1
theorem fi (L:List ae):1≤(aY L).length:=by simp [aY];omega
theorem eM {L:List ae} (h:bF L=true):(de L).data.toList=aY L:=by rw [de,if_pos h];rfl
theorem je {L:List ae} (h:bF L=false):de L=⟨#[]⟩:=by rw [de,if_neg (by rw [h];decide)]
inductive bG:List UInt8→List (List ae)→Nat→Prop
 | none {l:List UInt8} (h:∀L,¬eO l L):bG l [] 0
 | one {L:List ae} {r:List UInt8} {Ls:List (List ae)} {k:Nat} (h:bF L=true) (hr:bG r Ls k):bG (aY L++r) (L :: Ls) ((aY L).length+k)
theorem iP {l:List UInt8} {Ls:List (List ae)} {k:Nat} (h:bG l Ls k):k≤l.length:=by
 induction h with
 | none _=>exact Nat.zero_le _
 | one _ _ ih=>simp;omega
theorem fJ {l:List UInt8} {Ls:List (List ae)} {k:Nat} (h:bG l Ls k):∀{Ms:List (List ae)} {j:Nat},bG l Ms j→Ls=Ms∧k=j:=by
 induction h with
 | none hn =>
  intro Ms j h2;cases h2 with
  | none _=>exact ⟨rfl,rfl⟩
  | one hd _=>exact absurd ⟨hd,_,rfl⟩ (hn _)
 | @one L r Ls k hd hr ih =>
  intro Ms j h2;generalize hl:aY L++r=l at h2;cases h2 with
  | none hn=>exact absurd ⟨hd,r,hl.symm⟩ (hn L)
  | @one M r' Ms' k' hd' hr' =>
   have e:=vS (l:=aY M++r') ⟨hd,r,hl.symm⟩ ⟨hd',r',rfl⟩;subst e;have e2:=List.append_cancel_left hl;subst e2;obtain ⟨e3,e4⟩:=ih hr';exact ⟨by rw [e3],by rw [e4]⟩
end Go.Proofs.YtgpcinihgofmfaaGreatDoor

namespace Go.Proofs.YtgpcinihgofmfaaGreatDoor
open Go.RowKit
def dD (q:Int) (e:ae):Bool:=decide (q<e.2.1)
def aP (q:Int) (L:List ae):List ae:=L.filter (dD q)
def ef (L:List ae):Int:=match L.getLast? with | some e=>e.2.1 | none=>0
def bc (q:Int) (P:List (List ae)):Int:=(P.map (aP q)).flatten.foldl (fun m e=>max m e.2.1) q
def bz (q:Int) (P:List (List ae)):List (List ae):=P.filter (fun L=>decide (q<ef L))
def jM:List ae→Prop
 | []=>True
 | [_]=>True
 | a :: b :: r=>b.2.1=a.2.1+1∧jM (b :: r)
theorem xF (L:List ae) (h:∀i e f,L[i]?=some e→L[i+1]?=some f→f.2.1=e.2.1+1):jM L:=by
 induction L with
 | nil=>trivial
 | cons a r ih =>
  cases r with
  | nil=>trivial
  | cons b r=>exact ⟨h 0 a b rfl rfl,ih (fun i e f h1 h2=>h (i+1) e f (by simpa using h1) (by simpa using h2))⟩
theorem nF {L:List ae} (h:bF L=true):jM L:=by
 refine xF L (fun i e f h1 h2=>?_);unfold bF at h;simp only [Bool.and_eq_true] at h;have hi:=(List.getElem?_eq_some_iff.1 h2).1;have h3:=(List.all_eq_true.1 h.2.2) (i+1) (List.mem_range.2 hi);rw [gG h2 h1,Bool.and_eq_true] at h3;exact of_decide_eq_true h3.2
theorem xE {a:ae} {r:List ae} (h:jM (a :: r)):∀e ∈ r,a.2.1<e.2.1:=by
 induction r generalizing a with
 | nil=>intro e he;cases he
 | cons b r ih =>
  intro e he;rcases List.mem_cons.1 he with rfl | he
  · have:=h.1;omega
  · have h1:=ih h.2 e he;have:=h.1;omega
theorem yB {q:Int} {L:List ae} (h:∀e ∈ L,q<e.2.1):aP q L=L:=by
 unfold aP;rw [List.filter_eq_self];intro e he;exact decide_eq_true (h e he)
theorem o9 (q:Int):∀{L:List ae},jM L→aP q L=L.drop (L.findIdx (dD q))
 | [],_=>rfl
 | a :: r,h=>by
  have ht:jM r:=by cases r with | nil=>trivial | cons b r=>exact h.2
  by_cases hq:q<a.2.1
  · have h1:dD q a=true:=decide_eq_true hq
    have h2:(a :: r).findIdx (dD q)=0:=by simp [List.findIdx_cons,h1]
    rw [h2,List.drop_zero]
    exact yB (fun e he=>by
     rcases List.mem_cons.1 he with rfl | he
     · exact hq
     · have:=xE h e he;omega)
  · have h1:dD q a=false:=decide_eq_false hq
    have h2:(a :: r).findIdx (dD q)=r.findIdx (dD q)+1:=by simp [List.findIdx_cons,h1]
    rw [h2,List.drop_succ_cons,← o9 q ht]
    unfold aP
    rw [List.filter_cons_of_neg (by rw [h1];decide)]
theorem pa (a b:ae) (r:List ae):ef (a :: b :: r)=ef (b :: r):=by unfold ef;rw [List.getLast?_cons_cons]
theorem rG {a:ae} {r:List ae}:∃e ∈ a :: r,ef (a :: r)=e.2.1:=by
 induction r generalizing a with
 | nil=>exact ⟨a,by simp,rfl⟩
 | cons b r ih =>
  obtain ⟨e,he,h1⟩:=ih (a:=b);exact ⟨e,List.mem_cons_of_mem _ he,by rw [pa];exact h1⟩
theorem rF {a:ae} {r:List ae} (h:jM (a :: r)):∀e ∈ a :: r,e.2.1≤ef (a :: r):=by
 induction r generalizing a with
 | nil=>intro e he;rw [List.mem_singleton.1 he];exact Int.le_refl _
 | cons b r ih =>
  rw [pa];intro e he;rcases List.mem_cons.1 he with rfl | he
  · have h1:=ih h.2 b (by simp);have:=h.1;omega
  · exact ih h.2 e he
theorem lx {q:Int} {L:List ae} (hs:jM L) (hn:L≠[]):aP q L≠[] ↔ q<ef L:=by
 cases L with
 | nil=>exact absurd rfl hn
 | cons a r =>
  constructor
  · intro h;obtain ⟨e,he⟩:=List.exists_mem_of_ne_nil _ h;have h1:=List.mem_filter.1 he;have h2:=rF hs e h1.1;have h3:q<e.2.1:=of_decide_eq_true h1.2;omega
  · intro h h1;obtain ⟨e,he,h2⟩:=rG (a:=a) (r:=r);have:e ∈ aP q (a :: r):=List.mem_filter.2 ⟨he,decide_eq_true (by omega)⟩;rw [h1] at this;cases this
theorem pP:∀(L:List ae) (m:Int),m≤L.foldl (fun m e=>max m e.2.1) m∧∀e ∈ L,e.2.1≤L.foldl (fun m e=>max m e.2.1) m
 | [],m=>⟨Int.le_refl _,fun e he=>by cases he⟩
 | a :: r,m=>by
  obtain ⟨h1,h2⟩:=pP r (max m a.2.1)
  refine ⟨by simp only [List.foldl_cons];omega,fun e he=>?_⟩
  rcases List.mem_cons.1 he with rfl | he
  · simp only [List.foldl_cons];omega
  · exact h2 e he
theorem ym:∀(L:List ae) (m:Int),L.foldl (fun m e=>max m e.2.1) m=m∨∃e ∈ L,L.foldl (fun m e=>max m e.2.1) m=e.2.1
 | [],m=>.inl rfl
 | a :: r,m=>by
  simp only [List.foldl_cons]
  rcases ym r (max m a.2.1) with h | ⟨e,he,h⟩
  · rw [h]
    rcases Int.le_total m a.2.1 with h1 | h1
    · exact .inr ⟨a,by simp,by omega⟩
    · exact .inl (by omega)
  · exact .inr ⟨e,List.mem_cons_of_mem _ he,h⟩
theorem yj {q m:Int} {L:List ae} (hs:jM L) (hq:q<ef L) (hn:L≠[]):(aP q L).foldl (fun m e=>max m e.2.1) m=max m (ef L):=by
 obtain ⟨h1,h2⟩:=pP (aP q L) m;cases L with
 | nil=>exact absurd rfl hn
 | cons a r =>
  obtain ⟨e,he,h3⟩:=rG (a:=a) (r:=r);have h4:=h2 e (List.mem_filter.2 ⟨he,decide_eq_true (by omega)⟩);rcases ym (aP q (a :: r)) m with h | ⟨f,hf,h⟩
  · omega
  · have h5:=rF hs f (List.mem_filter.1 hf).1;omega
theorem ly (q:Int):∀(P:List (List ae)),(∀L ∈ P,bF L=true)→((bz q P).map (aP q)).flatten=(P.map (aP q)).flatten
 | [],_=>rfl
 | L :: P,h=>by
  have hd:=h L (by simp)
  have ih:=ly q P (fun M hM=>h M (List.mem_cons_of_mem _ hM))
  have hn:L≠[]:=fun e=>by rw [e] at hd;exact absurd hd (by rw [rW (by simp)];decide)
  unfold bz at ih ⊢
  by_cases hq:q<ef L
  · rw [List.filter_cons_of_pos (by exact decide_eq_true hq)]
    simp only [List.map_cons,List.flatten_cons,ih]
  · rw [List.filter_cons_of_neg (by rw [decide_eq_false hq];decide)]
    have h1:aP q L=[]:=Classical.byContradiction fun h1=>hq ((lx (nF hd) hn).1 h1)
    simp only [List.map_cons,List.flatten_cons,h1,List.nil_append,ih]
theorem vq (q:Int) (P:List (List ae)) (h:∀L ∈ P,bF L=true):bc q (bz q P)=bc q P:=by unfold bc;rw [ly q P h]
theorem vl {q:Int} {P:List (List ae)} (h:∀L ∈ P,bF L=true):∀L ∈ bz q P,bF L=true:=fun L hL=>h L (List.mem_filter.1 hL).1
theorem yC (q:Int) (P:List (List ae)):q≤bc q P:=(pP _ _).1
theorem jy {q:Int} {P:List (List ae)} {k:Nat} {L:List ae} (h:P[k]?=some L):((P.take (k+1)).map (aP q)).flatten=((P.take k).map (aP q)).flatten++aP q L:=by
 rw [List.take_add_one,h,List.map_append,List.flatten_append];simp
theorem lz {q:Int} {P:List (List ae)} {k:Nat} {L:List ae} (h:P[k]?=some L):bc q (P.take (k+1))=(aP q L).foldl (fun m e=>max m e.2.1) (bc q (P.take k)):=by
 unfold bc;rw [jy h,List.foldl_append]
theorem o6 {q:Int} {P:List (List ae)} {k:Nat} {L:List ae} (h:P[k]?=some L):bz q (P.take (k+1))=bz q (P.take k)++(if q<ef L then [L] else []):=by
 unfold bz;rw [List.take_add_one,h,List.filter_append];by_cases hq:q<ef L
 · simp [hq]
 · simp [hq]
end Go.Proofs.YtgpcinihgofmfaaGreatDoor

namespace Go.Proofs.YtgpcinihgofmfaaGreatDoor
open Go.RowKit
set_option maxRecDepth 100000
set_option maxHeartbeats 4000000
theorem Ae (X:Nat) (sd q d n:Int) (s t:ByteArray) (w:World) (h:w.cell? ⟨X,5,none⟩=some (iT sd)) :
 Calls Tryz.prog 109 #[.agg #[.string s,iT q,iT d,.string t,iT n],.pointer (pT X)] w fun e w'=>e=.returned (.bool (dD sd (s,q,d,t,n)))∧Bl w w':=by
 have hX:=World.block_lt_of_cell? _ _ h;simp only at hX;have k:Bl w (w.alloc (.cells #[.string s,iT q,iT d,.string t,iT n] 123)):=bZ;have h5:=cell_later k h;by_cases hq:sd<q
 · have hq':q > sd:=hq;go_enter Tryz.func109,Tryz.ntmps109
   go_wp2;go_ret;exact ⟨by unfold dD;simp [hq],k⟩
 · have hq':¬q > sd:=hq;go_enter Tryz.func109,Tryz.ntmps109
   go_wp2;go_ret;exact ⟨by unfold dD;simp [hq],k⟩
theorem vW {sd:Int} {L:List ae} {i:Nat} {e:ae} (h:L[i]?=some e) (he:dD sd e=true) (hw:∀(j:Nat) e,j<i→L[j]?=some e→dD sd e=false):L.findIdx (dD sd)=i:=by
 have hi:=(List.getElem?_eq_some_iff.1 h).1;rw [List.findIdx_eq hi];refine ⟨by rw [(List.getElem?_eq_some_iff.1 h).2];exact he,fun j hj=>hw j _ hj (List.getElem?_eq_getElem _)⟩
theorem yA {sd:Int} {L:List ae} {n:Nat} (hn:L.length=n) (hw:∀(j:Nat) e,j<n→L[j]?=some e→dD sd e=false):aP sd L=[]:=by
 unfold aP;rw [List.filter_eq_nil_iff];intro e he;obtain ⟨j,hj,rfl⟩:=List.getElem_of_mem he;rw [hw j _ (by omega) (List.getElem?_eq_getElem hj)];decide
def Bw (sd:Int) (L:List ae) (z:Int):Prop:=(z=-1∧aP sd L=[])∨(∃k:Nat,z=k∧k<L.length∧L.findIdx (dD sd)=k)
theorem vA (X:Nat) (sd:Int) (a:Option Addr) (n c:Nat) (L:List ae) (w:World) (hL:au w a n c L) (hx:w.cell? ⟨X,5,none⟩=some (iT sd)) :
 Calls Tryz.prog 108 #[.slice a n c,.func (.func 109) #[] #[.pointer (pT X)]] w fun e w'=>(∃z:Int,e=.returned (iT z)∧Bw sd L z)∧Bl w w':=by
 have HLN:Hid (L.length=n):=hL.length;have hr:=hL.room;have hbg:=hL.big;unfold maxLen at hbg;have H:=ar hL;have HX:=ar hx;clear hL hx;go_enter Tryz.func108,Tryz.ntmps108
 go_wp2;go_loopw [8] (fun iv wr=>∃i:Nat,i≤n∧iv=iT i∧Bl w wr∧(∀(j:Nat) e,j<i→L[j]?=some e→dD sd e=false)) (fun iv _=>n - (intOf iv).toNat)
 case atStart=>exact ⟨0,Nat.zero_le _,rfl,Below.refl _ _,fun j r hj=>absurd hj (Nat.not_lt_zero _)⟩
 case round =>
  obtain ⟨i,hi,rfl,hb,hw⟩:=hrel;have HW:Hid (∀(j:Nat) e,j<i→L[j]?=some e→dD sd e=false):=hw;have HB:Hid (Bl w wr):=hb;clear hw;by_cases hin:i<n
  · have hinI:(i:Int)<(n:Int):=by omega
    obtain ⟨b,off,rfl,hbb⟩:=H.out.form (by omega);obtain ⟨es,eq,ed,et,en,hg,_,e0,e1,e2,e3,e4⟩:=H.out.ent hb hbb i hin;have HG:Hid (L[i]?=some (es,eq,ed,et,en)):=hg;have zb:=Nat.lt_of_lt_of_le hbb hb.size;have CF:=Ae X sd eq ed en es et wr (cell_later hb HX.out);obtain ⟨O,hO⟩:=aw (dD sd (es,eq,ed,et,en));have HO:Hid (O=dD sd (es,eq,ed,et,en)):=hO;rw [← hO] at CF;clear hg hb hO;go_wp2_with fail
    refine CF.mono ?_;rintro e w1 ⟨rfl,hb1⟩;have K1:Hid (Bl w w1):=HB.out.trans (hb1.mono HB.out.size);clear hb1 CF;cases hOv:O with
    | true =>
     have HN:Hid (L.findIdx (dD sd)=i):=vW HG.out (by rw [← HO.out];exact hOv) HW.out;go_wp2;go_ret;exact ⟨⟨(i:Int),rfl,Or.inr ⟨i,rfl,by rw [HLN.out];exact hin,HN.out⟩⟩,K1.out⟩
    | false =>
     have HN:Hid (∀(j:Nat) e,j<i+1→L[j]?=some e→dD sd e=false):=by
      intro j r hj hr;by_cases e:j=i
      · subst e;rw [HG.out] at hr;cases hr;rw [← HO.out];exact hOv
      · exact HW.out j r (by omega) hr
     go_wp2;go_roundw
     case rel=>exact ⟨i+1,by omega,by go_num,K1.out,HN.out⟩
     case measure=>simp [intOf];omega
  · have hinI:¬(i:Int)<(n:Int):=by omega
    have hni:i=n:=by omega
    have HN:Hid (aP sd L=[]):=yA HLN.out (fun j e hj h=>HW.out j e (by omega) h);clear hni;go_wp2;go_ret;exact ⟨⟨-1,rfl,Or.inl ⟨rfl,HN.out⟩⟩,HB.out⟩
end Go.Proofs.YtgpcinihgofmfaaGreatDoor

namespace Go.Proofs.YtgpcinihgofmfaaGreatDoor
open Go.Shelf
def Tryz.lays170_ren : Go.Shelf.Ren := ⟨fun | 170 => 148 | n => n, fun | 70 => 137 | 3 => 3 | 0 => 0 | 72 => 140 | 37 => 138 | 5 => 5 | n => n, fun | n => n⟩
theorem Tryz.lays170 : Go.Proofs.Lays.n170 Tryz.prog Tryz.lays170_ren := {
  mixed := by kernel_rfl
  f170 := Tryz.func148.trans (congrArg some (by kernel_rfl))
  t0 := Tryz.underlying0
  a0 := Tryz.isAgg0
  z0 := Tryz.sizeOf0
  v0 := Tryz.zeroValue0
  t3 := Tryz.underlying3
  a3 := Tryz.isAgg3
  z3 := Tryz.sizeOf3
  v3 := Tryz.zeroValue3
  t37 := Tryz.underlying138
  a37 := Tryz.isAgg138
  z37 := Tryz.sizeOf138
  v37 := Tryz.zeroValue138
  t70 := Tryz.underlying137
  a70 := Tryz.isAgg137
  z70 := Tryz.sizeOf137
  v70 := Tryz.zeroValue137
  t72 := Tryz.underlying140
  a72 := Tryz.isAgg140
  z72 := Tryz.sizeOf140
  v72 := Tryz.zeroValue140 }
open Go.RowKit in
theorem Tryz.Builder_Len (B b : Nat) (bs : List Value) (w : World) (h : Lib.IsBuilder 140 5 B b bs w) :
    Calls Tryz.prog 148 #[.pointer (some ⟨b, 0, none⟩)] w fun e w' => e = .returned (.int .i64 bs.length) ∧ w' = w := Any.Builder_Len Tryz.lays170 B b bs w h
def Tryz.lays169_ren : Go.Shelf.Ren := ⟨fun | 169 => 113 | n => n, fun | 70 => 137 | 9 => 9 | 0 => 0 | 72 => 140 | 37 => 138 | 127 => 190 | 3 => 3 | 5 => 5 | n => n, fun | n => n⟩
theorem Tryz.lays169 : Go.Proofs.Lays.n169 Tryz.prog Tryz.lays169_ren := {
  mixed := by kernel_rfl
  f169 := Tryz.func113.trans (congrArg some (by kernel_rfl))
  t0 := Tryz.underlying0
  a0 := Tryz.isAgg0
  z0 := Tryz.sizeOf0
  v0 := Tryz.zeroValue0
  t3 := Tryz.underlying3
  a3 := Tryz.isAgg3
  z3 := Tryz.sizeOf3
  v3 := Tryz.zeroValue3
  t9 := Tryz.underlying9
  a9 := Tryz.isAgg9
  z9 := Tryz.sizeOf9
  v9 := Tryz.zeroValue9
  t37 := Tryz.underlying138
  a37 := Tryz.isAgg138
  z37 := Tryz.sizeOf138
  v37 := Tryz.zeroValue138
  t70 := Tryz.underlying137
  a70 := Tryz.isAgg137
  z70 := Tryz.sizeOf137
  v70 := Tryz.zeroValue137
  t72 := Tryz.underlying140
  a72 := Tryz.isAgg140
  z72 := Tryz.sizeOf140
  v72 := Tryz.zeroValue140
  t127 := Tryz.underlying190
  a127 := Tryz.isAgg190
  z127 := Tryz.sizeOf190
  v127 := Tryz.zeroValue190 }
theorem Tryz.Builder_Extra_169 : Builder.Extra Tryz.prog Tryz.lays169_ren := {
  sizeBuilder := by kernel_rfl
  liesBuilder := by kernel_rfl
  t5 := Tryz.underlying5
  a5 := Tryz.isAgg5
  z5 := Tryz.sizeOf5
  v5 := Tryz.zeroValue5
  infoByte := by kernel_rfl
  cellsByte := by kernel_rfl
  sizeByte := by kernel_rfl
  neB5 := by decide }
open Go.RowKit in
theorem Tryz.Builder_String_any (B b : Nat) (l : List UInt8) (w : World) (h : Lib.IsBuilder 140 5 B b (Lib.byteCells l) w) (hBw : B ≤ w.heap.size) :
    Calls Tryz.prog 113 #[.pointer (some ⟨b, 0, none⟩)] w fun e w' => e = .returned (.string ⟨l.toArray⟩) ∧ Below B w w' := Any.Builder_String_any Tryz.lays169 Tryz.Builder_Extra_169 B b l w h hBw
def Tryz.lays217_ren : Go.Shelf.Ren := ⟨fun | 217 => 209 | 266 => 217 | n => n, fun | 9 => 9 | 5 => 5 | 3 => 3 | n => n, fun | n => n⟩
theorem Tryz.lays217 : Go.Proofs.Lays.n217 Tryz.prog Tryz.lays217_ren := {
  mixed := by kernel_rfl
  f217 := Tryz.func209.trans (congrArg some (by kernel_rfl))
  f266 := Tryz.func217.trans (congrArg some (by kernel_rfl))
  t3 := Tryz.underlying3
  a3 := Tryz.isAgg3
  z3 := Tryz.sizeOf3
  v3 := Tryz.zeroValue3
  t5 := Tryz.underlying5
  a5 := Tryz.isAgg5
  z5 := Tryz.sizeOf5
  v5 := Tryz.zeroValue5
  t9 := Tryz.underlying9
  a9 := Tryz.isAgg9
  z9 := Tryz.sizeOf9
  v9 := Tryz.zeroValue9 }
open Go.RowKit Go.Lib in
theorem Tryz.stringslite_IndexByte (s : ByteArray) (c : Int) (w : World) :
    Calls Tryz.prog 209 #[.string s, .int .u8 c] w fun e w' => e = .returned (.int .i64 (Lib.indexByte s.data.toList c.toNat.toUInt8)) ∧ w' = w := Any.stringslite_IndexByte Tryz.lays217 s c w
end Go.Proofs.YtgpcinihgofmfaaGreatDoor
