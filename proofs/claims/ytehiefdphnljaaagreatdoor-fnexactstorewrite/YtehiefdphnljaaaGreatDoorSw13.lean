/- Walks. -/
import Derived.Lib.AtoiAll
import Derived.Lib.AtoiTie
import Derived.Lib.ItoaMem
import Derived.Test.YtehiefdphnljaaaGreatDoorSw12
import Derived.Shelf.Strings.Builder1
import Derived.Shelf.Strings.Search1
namespace Go.Proofs.YtehiefdphnljaaaGreatDoor
set_option maxRecDepth 100000
set_option maxHeartbeats 40000000
open Go.RowKit Go.Shelf
variable {L r:List ae} {Ls P:List (List ae)} {a e:ae} {j k:Nat} {q sd:Int}
def d7 (c:UInt8):Bool:=decide (48≤c.toNat) && decide (c.toNat≤57)
def qC (c:UInt8):Bool:=BO c || (d7 c || decide (c.toNat=45))
theorem iU:∀(a b:List UInt8) (acc:Nat),Lib.decFrom acc (a++b)=(Lib.decFrom acc a).bind fun x=>Lib.decFrom x b
 | [],b,acc=>rfl
 | c :: r,b,acc=>by
  simp only [List.cons_append,Lib.decFrom]
  cases h:Lib.digitVal c with
  | none=>rfl
  | some d=>simp only [iU r b]
theorem mC (d:Nat) (h:d<10):d7 (UInt8.ofNat (48+d))=true∧(UInt8.ofNat (48+d)).toNat=48+d:=by
 have e:(UInt8.ofNat (48+d)).toNat=48+d:=by simp;omega
 refine ⟨?_,e⟩;unfold d7;rw [e,decide_eq_true (by omega),decide_eq_true (by omega)];rfl
theorem lZ (d:Nat) (h:d<10):Lib.digitVal (UInt8.ofNat (48+d))=some d:=by
 unfold Lib.digitVal;rw [(mC d h).2,if_pos (by omega)];congr 1
 omega
theorem nK (u:Nat):∀acc,∃k,Lib.decFrom acc (Lib.decDigits u)=some (acc*k+u):=by
 induction u using Nat.strongRecOn with
 | _ u ih =>
  intro acc;by_cases h:u<10
  · rw [Lib.decDigits_one h];exact ⟨10,by simp only [Lib.decFrom,lZ u h]⟩
  · obtain ⟨k,hk⟩:=ih (u / 10) (by omega) acc;rw [Lib.decDigits.eq_1 u,dif_neg h,iU,hk];refine ⟨k*10,?_⟩;simp only [Option.bind_some,Lib.decFrom,lZ (u % 10) (by omega)];congr 1
    rw [Nat.add_mul,← Nat.mul_assoc];omega
theorem fh (u:Nat):(Lib.decDigits u).all d7=true:=by
 induction u using Nat.strongRecOn with
 | _ u ih =>
  by_cases h:u<10
  · rw [Lib.decDigits_one h];simp only [List.all_cons,List.all_nil,(mC u h).1,Bool.and_true]
  · rw [Lib.decDigits.eq_1 u,dif_neg h,List.all_append,ih (u / 10) (by omega)];simp only [List.all_cons,List.all_nil,(mC (u % 10) (by omega)).1,Bool.and_true]
theorem jt (u:Nat):Lib.decDigits u≠[]:=by
 intro h;have h1:=Lib.nDigits_pos u;rw [← Lib.decDigits_length,h] at h1;simp at h1
theorem gg (u:Nat):Lib.decNat (Lib.decDigits u)=some u:=by
 obtain ⟨k,hk⟩:=nK u 0;unfold Lib.decNat;rw [if_neg (by simpa using jt u),hk];simp
theorem io (u:Nat) (h:u≤10000000):(Lib.decDigits u).length≤8:=by
 have e:∀(k u:Nat),u<10 ^ k→1≤k→Lib.nDigits u≤k:=by
  intro k;induction k with
  | zero=>intro u _ h;omega
  | succ k ih =>
   intro u hu _;by_cases h9:u<10
   · rw [Lib.nDigits_small h9];omega
   · rw [Lib.nDigits_big h9];have h10:u / 10<10 ^ k:=by rw [Nat.pow_succ] at hu;omega
     have hk:1≤k:=by
      rcases Nat.eq_zero_or_pos k with rfl | h'
      · simp at h10;omega
      · exact h'
     have:=ih (u / 10) h10 hk;omega
 rw [Lib.decDigits_length];exact e 8 u (by omega) (by omega)
theorem xj (n:Int) (h0:-10000000≤n) (h1:n≤10000000):Lib.atoiAll (Lib.itoa n)=.ok n:=by
 have hlen:(Lib.itoa n).length≤18:=by
  by_cases hn:n<0
  · obtain ⟨u,rfl⟩:∃u:Nat,n=-(u:Int):=⟨(-n).toNat,by omega⟩;rw [Lib.itoa_neg u (by omega),List.length_cons];have:=io u (by omega);omega
  · obtain ⟨u,rfl⟩:∃u:Nat,n=u:=⟨n.toNat,by omega⟩;rw [Lib.itoa_nonneg];have:=io u (by omega);omega
 rw [Lib.atoiAll_short _ hlen];have:Lib.atoi (Lib.itoa n)=some n:=by
  by_cases hn:n<0
  · obtain ⟨u,rfl⟩:∃u:Nat,n=-(u:Int):=⟨(-n).toNat,by omega⟩;rw [Lib.itoa_neg u (by omega)];simp only [Lib.atoi,gg];rfl
  · obtain ⟨u,rfl⟩:∃u:Nat,n=u:=⟨n.toNat,by omega⟩;rw [Lib.itoa_nonneg];cases hd:Lib.decDigits u with
    | nil=>exact absurd hd (jt u)
    | cons c r =>
     have hc:d7 c=true:=by
      have:=fh u;rw [hd] at this;simp only [List.all_cons,Bool.and_eq_true] at this;exact this.1
     simp only [d7,Bool.and_eq_true,decide_eq_true_eq] at hc;have e1:(c == 45)=false:=by
      rw [beq_eq_false_iff_ne];rintro rfl;exact absurd hc.1 (by decide)
     have e2:(c == 43)=false:=by
      rw [beq_eq_false_iff_ne];rintro rfl;exact absurd hc.1 (by decide)
     simp only [Lib.atoi,e1,e2];rw [← hd,gg];rfl
 rw [this];rfl
theorem vK (n:Int):∀c ∈ Lib.itoa n,qC c=true:=by
 intro c hc;unfold Lib.itoa at hc;have hd:∀u,c ∈ Lib.decDigits u→qC c=true:=by
  intro u hu;have:=List.all_eq_true.1 (fh u) c hu;unfold qC;rw [this];simp
 split at hc
 · rcases List.mem_cons.1 hc with rfl | h
   · decide
   · exact hd _ h
 · exact hd _ hc
theorem xE {l:List UInt8} {c:UInt8} (h:∀x ∈ l,qC x=true) (hc:qC c=false):c ∉ l:=fun hm=>by rw [h c hm] at hc;cases hc
def dv (l:List UInt8):Nat:=l.foldl (fun a c=>a*10+(c.toNat - 48)) 0
theorem qv (l:List UInt8) (c:UInt8):dv (l++[c])=dv l*10+(c.toNat - 48):=by simp [dv]
theorem uH:∀(l:List UInt8) (a:Nat),l.all d7=true→Lib.decFrom a l=some (l.foldl (fun a c=>a*10+(c.toNat - 48)) a)
 | [],a,_=>rfl
 | c :: r,a,h=>by
  simp only [List.all_cons,Bool.and_eq_true] at h
  have hc:=h.1
  simp only [d7,Bool.and_eq_true,decide_eq_true_eq] at hc
  simp only [Lib.decFrom,Lib.digitVal,if_pos hc,List.foldl_cons]
  exact uH r _ h.2
theorem pq (u:Nat):dv (Lib.decDigits u)=u:=by
 have h1:=uH _ 0 (fh u);have h2:=gg u;unfold Lib.decNat at h2;rw [if_neg (by simpa using jt u)] at h2;exact Option.some.inj (h1.symm.trans h2)
theorem pp:∀(l:List UInt8),l.all d7=true→dv l<10 ^ l.length:=by
 intro l;suffices h:∀(l:List UInt8) (a k:Nat),l.all d7=true→a<10 ^ k→l.foldl (fun a c=>a*10+(c.toNat - 48)) a<10 ^ (k+l.length) by
  intro hl;have:=h l 0 0 hl (by decide);simpa [dv] using this
 intro l;induction l with
 | nil=>intro a k _ ha;simpa using ha
 | cons c r ih =>
  intro a k h ha;simp only [List.all_cons,Bool.and_eq_true] at h;have hc:=h.1;simp only [d7,Bool.and_eq_true,decide_eq_true_eq] at hc;have:=ih (a*10+(c.toNat - 48)) (k+1) h.2 (by rw [Nat.pow_succ];omega);simp only [List.foldl_cons,List.length_cons];rw [show k+(r.length+1)=k+1+r.length by omega];exact this
theorem lY (u:Nat):1≤u→∀r,Lib.decDigits u≠48 :: r:=by
 induction u using Nat.strongRecOn with
 | _ u ih =>
  intro hu r hr;by_cases h:u<10
  · rw [Lib.decDigits_one h] at hr;have e:=(List.cons.inj hr).1;have:=congrArg UInt8.toNat e;rw [(mC u h).2] at this;have e48:(48:UInt8).toNat=48:=by decide
    omega
  · rw [Lib.decDigits.eq_1 u,dif_neg h] at hr;cases hd:Lib.decDigits (u / 10) with
    | nil=>exact jt _ hd
    | cons x y =>
     rw [hd,List.cons_append] at hr;have e:=(List.cons.inj hr).1;subst e;exact ih (u / 10) (by omega) (by omega) y hd
theorem m8 (m:Int) (h0:-10000000≤m) (h1:m≤10000000):(∃u:Nat,1≤u∧m=-(u:Int)∧Lib.itoa m=45 :: Lib.decDigits u∧(Lib.decDigits u).length≤8)∨(∃u:Nat,m=(u:Int)∧Lib.itoa m=Lib.decDigits u∧(Lib.decDigits u).length≤8):=by
 by_cases hn:m<0
 · obtain ⟨u,rfl⟩:∃u:Nat,m=-(u:Int):=⟨(-m).toNat,by omega⟩;exact Or.inl ⟨u,by omega,rfl,Lib.itoa_neg u (by omega),io u (by omega)⟩
 · obtain ⟨u,rfl⟩:∃u:Nat,m=u:=⟨m.toNat,by omega⟩;exact Or.inr ⟨u,rfl,Lib.itoa_nonneg u,io u (by omega)⟩
def cN (e:ae):Bool:=cV e.1 e.2.1 e.2.2.1 e.2.2.2.1 e.2.2.2.2
def iz (L:List ae):Nat→Bool
 | 0=>match L[0]? with
  | none=>true
  | some e=>cN e
 | j+1=>match L[j+1]?,L[j]? with
  | some e,some p=>cN e && decide (e.2.1=p.2.1+1)
  | _,_=>true
def dY (L:List ae) (k:Nat):Bool:=(List.range k).all (iz L)
def bG (L:List ae):Bool:=decide (1≤L.length) && (decide (L.length≤12) && dY L L.length)
theorem sR (L:List ae) (k:Nat):dY L (k+1)=(dY L k && iz L k):=by
 simp [dY,List.range_succ]
theorem gM (h:dY L k=true) (h1:iz L k=true):dY L (k+1)=true:=by rw [sR,h,h1];rfl
theorem xW (hk:k<L.length) (h:iz L k=false):dY L L.length=false:=by
 unfold dY;rw [List.all_eq_false];exact ⟨k,by simpa using hk,by simp [h]⟩
theorem kT (h:L[0]?=some e):iz L 0=cN e:=by simp only [iz,h]
theorem xX (h:L[k]?=some e) (hv:cN e=false):k=0∨(∃p,L[k - 1]?=some p)→iz L k=false:=by
 intro hp;cases k with
 | zero=>rw [kT h,hv]
 | succ j =>
  rcases hp with hp | ⟨p,hp⟩
  · omega
  · simp only [Nat.add_sub_cancel] at hp;simp only [iz,h,hp,hv,Bool.false_and]
theorem kU (h:L[k]?=some e) (hv:cN e=false):iz L k=false:=by
 apply xX h hv;cases k with
 | zero=>exact Or.inl rfl
 | succ j =>
  have:=(List.getElem?_eq_some_iff.1 h).1;exact Or.inr ⟨L[j],by simp only [Nat.add_sub_cancel];exact List.getElem?_eq_getElem (by omega)⟩
theorem gq {p:ae} (h:L[j+1]?=some e) (hp:L[j]?=some p):iz L (j+1)=(cN e && decide (e.2.1=p.2.1+1)):=by simp only [iz,h,hp]
theorem mH (h:dY L k=true) (hj:j<k) (he:L[j]?=some e):cN e=true:=by
 unfold dY at h;have h1:=List.all_eq_true.1 h j (by simpa using hj);cases hv:cN e with
 | true=>rfl
 | false=>rw [kU he hv] at h1;cases h1
theorem rZ (h:L.length<1):bG L=false:=by unfold bG;rw [decide_eq_false (by omega)];rfl
theorem wQ (h:12<L.length):bG L=false:=by unfold bG;rw [decide_eq_false (p:=L.length≤12) (by omega)];simp
theorem mA (hk:k<L.length) (h:iz L k=false):bG L=false:=by unfold bG;rw [xW hk h];simp
theorem zP (h1:1≤L.length) (h2:L.length≤12) (h:dY L L.length=true):bG L=true:=by unfold bG;rw [decide_eq_true h1,decide_eq_true h2,h];rfl
theorem zR (h:dY L L.length=true):bG L=(decide (1≤L.length) && decide (L.length≤12)):=by unfold bG;rw [h];simp
theorem cO (h:bG L=true):1≤L.length∧L.length≤12∧∀e ∈ L,cN e=true:=by
 simp only [bG,Bool.and_eq_true,decide_eq_true_eq] at h;refine ⟨h.1,h.2.1,fun e he=>?_⟩;obtain ⟨j,hj⟩:=List.mem_iff_getElem?.1 he;exact mH h.2.2 (List.getElem?_eq_some_iff.1 hj).1 hj
def fH (e:ae):List UInt8:=e.1.data.toList++32 :: (Lib.itoa e.2.1++32 :: (Lib.itoa e.2.2.1++32 :: (Lib.itoa e.2.2.2.2++32 :: (Lib.itoa (e.2.2.2.1.size:Int)++32 :: e.2.2.2.1.data.toList))))
def aT:List ae→List UInt8
 | []=>[]
 | e :: r=>fH e++aT r
def aW (L:List ae):ByteArray:=if bG L=true then ⟨(Lib.itoa ((aT L).length:Int)++32 :: (aT L++[10])).toArray⟩ else ⟨#[]⟩
theorem qq (A B:List ae):aT (A++B)=aT A++aT B:=by
 induction A with
 | nil=>rfl
 | cons l r ih=>simp [aT,ih]
theorem nC {l:ae} (h:L[k]?=some l):aT (L.take (k+1))=aT (L.take k)++fH l:=by
 rw [List.take_add_one,h,qq];simp [aT]
theorem dX (h:cN e=true):e.1.size≤8∧1≤e.2.1∧e.2.1≤100000∧1≤e.2.2.1∧e.2.2.1≤3∧-1000000≤e.2.2.2.2∧e.2.2.2.2≤1000000∧e.2.2.2.1.size≤60:=by
 obtain ⟨k,q,d,t,n⟩:=e;unfold cN at h;have hk:k.size≤8:=by
  rcases Nat.lt_or_ge 8 k.size with h' | h'
  · rw [iQ (rK k h')] at h;cases h
  · exact h'
 have a1:1≤q:=by
  rcases Int.lt_or_le q 1 with h' | h'
  · rw [qs h'] at h;cases h
  · exact h'
 have a2:q≤100000:=by
  rcases Int.lt_or_le 100000 q with h' | h'
  · rw [qr h'] at h;cases h
  · exact h'
 have a3:-1000000≤n:=by
  rcases Int.lt_or_le n (-1000000) with h' | h'
  · rw [qu h'] at h;cases h
  · exact h'
 have a4:n≤1000000:=by
  rcases Int.lt_or_le 1000000 n with h' | h'
  · rw [qt h'] at h;cases h
  · exact h'
 have a5:t.size≤60:=by
  rcases Nat.lt_or_ge 60 t.size with h' | h'
  · rw [ue h'] at h;cases h
  · exact h'
 have hk':d6 k=true:=by
  cases hk':d6 k with
  | true=>rfl
  | false=>rw [iQ hk'] at h;cases h
 rw [dp hk' a1 a2 a3 a4 a5] at h;have a6:1≤d∧d≤3:=by
  by_cases d1:d=1
  · omega
  by_cases d2:d=2
  · omega
  by_cases d3:d=3
  · omega
  rw [pZ d1 d2 d3] at h;cases h
 exact ⟨hk,a1,a2,a6.1,a6.2,a3,a4,a5⟩
theorem aN (s:ByteArray):s.data.toList.length=s.size:=by rw [Array.length_toList];rfl
theorem zK (h:cN e=true):(fH e).length≤160:=by
 obtain ⟨h1,h2,h3,h4,h5,h6,h7,h8⟩:=dX h;have e1:=Lib.itoa_length_le e.2.1 (by omega) (by omega);have e2:=Lib.itoa_length_le e.2.2.1 (by omega) (by omega);have e3:=Lib.itoa_length_le e.2.2.2.2 (by omega) (by omega);have e4:=Lib.itoa_length_le (e.2.2.2.1.size:Int) (by omega) (by omega);simp only [fH,List.length_append,List.length_cons,aN];omega
theorem gD:∀(L:List ae),(∀e ∈ L,cN e=true)→(aT L).length≤160*L.length
 | [],_=>by simp [aT]
 | l :: r,h=>by
  have h1:=zK (h l (by simp))
  have h2:=gD r (fun x hx=>h x (by simp [hx]))
  simp only [aT,List.length_append,List.length_cons]
  omega
theorem ly (h:bG L=false):aW L=⟨#[]⟩:=by unfold aW;rw [h];simp
theorem jN (h:bG L=true):aW L=⟨(Lib.itoa ((aT L).length:Int)++32 :: (aT L++[10])).toArray⟩:=by unfold aW;rw [if_pos h]
def dL (n:Int) (l:List UInt8):List UInt8 × List UInt8:=if n<0∨(l.length:Int)<n then ([],l) else (l.take n.toNat,l.drop n.toNat)
def gl (l:List UInt8):List UInt8 × List UInt8:=if (32:UInt8) ∈ l then (l.takeWhile (· != 32),(l.dropWhile (· != 32)).drop 1) else ([],l.drop 1)
def fT (l:List UInt8):Int × List UInt8:=((match Lib.atoiAll (gl l).1 with | .ok v=>v | _=>0),(gl l).2)
def rY (l:List UInt8):ae × List UInt8 :=
 let k:=gl l
 let q:=fT k.2
 let d:=fT q.2
 let n:=fT d.2
 let z:=fT n.2
 let t:=dL z.1 z.2
 ((⟨k.1.toArray⟩,q.1,d.1,⟨t.1.toArray⟩,n.1),t.2)
def fS:Nat→Int→List UInt8→List ae
 | 0,_,_=>[]
 | k+1,s,l=>if s<(l.length:Int) then (rY l).1 :: fS k s (rY l).2 else []
theorem ow:∀(u r:List UInt8),(32:UInt8) ∉ u→(u++32 :: r).takeWhile (· != 32)=u∧(u++32 :: r).dropWhile (· != 32)=32 :: r
 | [],r,_=>by simp
 | x :: u,r,h=>by
  have h1:(x != 32)=true:=by simpa using fun e:x=32=>h (by simp [e])
  have h2:=ow u r (fun hm=>h (by simp [hm]))
  constructor
  · simp only [List.cons_append,List.takeWhile_cons,h1,if_true,h2.1]
  · simp only [List.cons_append,List.dropWhile_cons,h1,if_true,h2.2]
theorem iF (u r:List UInt8) (h:(32:UInt8) ∉ u):gl (u++32 :: r)=(u,r):=by
 obtain ⟨h1,h2⟩:=ow u r h;rw [gl,if_pos (by simp),h1,h2];rfl
theorem uC (n:Int):(32:UInt8) ∉ Lib.itoa n:=xE (vK n) (by decide)
theorem kj (n:Int) (r:List UInt8) (h0:-10000000≤n) (h1:n≤10000000):fT (Lib.itoa n++32 :: r)=(n,r):=by
 rw [fT,iF _ _ (uC n),xj n h0 h1]
theorem k9 (u r:List UInt8):dL (u.length:Int) (u++r)=(u,r):=by
 rw [dL,if_neg (by simp;omega)];simp
theorem yZ {s:ByteArray} (h:d6 s=true):(32:UInt8) ∉ s.data.toList:=by
 intro hm;simp only [d6,Bool.and_eq_true] at h;have:=List.all_eq_true.1 h.2.2 32 hm;exact absurd this (by decide)
theorem uF (h:cN e=true):d6 e.1=true:=by
 unfold cN at h;cases hk:d6 e.1 with
 | true=>rfl
 | false=>rw [iQ hk] at h;cases h
theorem AL (h:cN e=true) (r:List UInt8):rY (fH e++r)=(e,r):=by
 obtain ⟨h1,h2,h3,h4,h5,h6,h7,h8⟩:=dX h;have hk:=yZ (uF h);obtain ⟨k,q,d,t,n⟩:=e;simp only at h1 h2 h3 h4 h5 h6 h7 h8 hk;have e0:fH (k,q,d,t,n)++r=k.data.toList++32 :: (Lib.itoa q++32 :: (Lib.itoa d++32 :: (Lib.itoa n++32 :: (Lib.itoa (t.size:Int)++32 :: (t.data.toList++r))))):=by simp [fH]
 rw [e0,rY];simp only [iF _ _ hk,kj q _ (by omega) (by omega),kj d _ (by omega) (by omega),kj n _ (by omega) (by omega),kj (t.size:Int) _ (by omega) (by omega)];rw [show (t.size:Int)=(t.data.toList.length:Int) by rw [aN]];rw [k9]
theorem nD (e:ae):1≤(fH e).length:=by simp [fH];omega
theorem sk:∀(L:List ae) (k:Nat) (r:List UInt8),(∀e ∈ L,cN e=true)→L.length≤k→fS k (r.length:Int) (aT L++r)=L
 | [],0,r,_,_=>rfl
 | [],k+1,r,_,_=>by simp [fS,aT]
 | e :: L,0,r,_,h=>by simp at h
 | e :: L,k+1,r,ha,h=>by
  have hp:=nD e
  have e0:aT (e :: L)++r=fH e++(aT L++r):=by simp [aT]
  rw [e0,fS,if_pos (by simp;omega),AL (ha e (by simp))]
  simp only
  rw [sk L k r (fun x hx=>ha x (by simp [hx])) (by simpa using h)]
def aY (L:List ae):List UInt8:=Lib.itoa ((aT L).length:Int)++32 :: (aT L++[10])
def eN (l:List UInt8) (L:List ae):Prop:=bG L=true∧∃r,l=aY L++r
theorem dO (h:bG L=true):(aT L).length≤1920:=by
 obtain ⟨h1,h2,h3⟩:=cO h;have:=gD L h3;omega
theorem lx {l:List UInt8} (h:eN l L):(fT l).1=((aT L).length:Int)∧∃r,(fT l).2=aT L++10 :: r∧fS 12 (((fT l).2.length:Int) - (fT l).1) (fT l).2=L:=by
 obtain ⟨hd,r,rfl⟩:=h;obtain ⟨h1,h2,h3⟩:=cO hd;have hs:=dO hd;have e0:aY L++r=Lib.itoa ((aT L).length:Int)++32 :: (aT L++10 :: r):=by simp [aY]
 rw [e0,kj _ _ (by omega) (by omega)];refine ⟨rfl,r,rfl,?_⟩;have e1:((aT L++10 :: r).length:Int) - ((aT L).length:Int)=((10 :: r).length:Int):=by simp;omega
 simp only [e1];exact sk L 12 (10 :: r) h3 h2
theorem wB {l:List UInt8} {M:List ae} (h:eN l L) (k:eN l M):L=M:=by
 obtain ⟨_,_,_,h1⟩:=lx h;obtain ⟨_,_,_,k1⟩:=lx k;exact h1.symm.trans k1
theorem fg (L:List ae):1≤(aY L).length:=by simp [aY];omega
theorem eL (h:bG L=true):(aW L).data.toList=aY L:=by rw [aW,if_pos h];rfl
theorem iN (h:bG L=false):aW L=⟨#[]⟩:=by rw [aW,if_neg (by rw [h];decide)]
inductive ce:List UInt8→List (List ae)→Nat→Prop
 | none {l:List UInt8} (h:∀L,¬eN l L):ce l [] 0
 | one {L:List ae} {r:List UInt8} {Ls:List (List ae)} {k:Nat} (h:bG L=true) (hr:ce r Ls k):ce (aY L++r) (L :: Ls) ((aY L).length+k)
theorem jT {l:List UInt8} (h:ce l Ls k):k≤l.length:=by
 induction h with
 | none _=>exact Nat.zero_le _
 | one _ _ ih=>simp;omega
theorem jb {l:List UInt8} (h:ce l Ls k):∀{Ms:List (List ae)} {j:Nat},ce l Ms j→Ls=Ms∧k=j:=by
 induction h with
 | none hn =>
  intro Ms j h2;cases h2 with
  | none _=>exact ⟨rfl,rfl⟩
  | one hd _=>exact absurd ⟨hd,_,rfl⟩ (hn _)
 | @one L r Ls k hd hr ih =>
  intro Ms j h2;generalize hl:aY L++r=l at h2;cases h2 with
  | none hn=>exact absurd ⟨hd,r,hl.symm⟩ (hn L)
  | @one M r' Ms' k' hd' hr' =>
   have e:=wB (l:=aY M++r') ⟨hd,r,hl.symm⟩ ⟨hd',r',rfl⟩;subst e;have e2:=List.append_cancel_left hl;subst e2;obtain ⟨e3,e4⟩:=ih hr';exact ⟨by rw [e3],by rw [e4]⟩
def dF (q:Int) (e:ae):Bool:=decide (q<e.2.1)
def aS (q:Int) (L:List ae):List ae:=L.filter (dF q)
def ef (L:List ae):Int:=match L.getLast? with | some e=>e.2.1 | none=>0
def bh (q:Int) (P:List (List ae)):Int:=(P.map (aS q)).flatten.foldl (fun m e=>max m e.2.1) q
def bD (q:Int) (P:List (List ae)):List (List ae):=P.filter (fun L=>decide (q<ef L))
def jC:List ae→Prop
 | []=>True
 | [_]=>True
 | a :: b :: r=>b.2.1=a.2.1+1∧jC (b :: r)
theorem xV (L:List ae) (h:∀i e f,L[i]?=some e→L[i+1]?=some f→f.2.1=e.2.1+1):jC L:=by
 induction L with
 | nil=>trivial
 | cons a r ih =>
  cases r with
  | nil=>trivial
  | cons b r=>exact ⟨h 0 a b rfl rfl,ih (fun i e f h1 h2=>h (i+1) e f (by simpa using h1) (by simpa using h2))⟩
theorem nI (h:bG L=true):jC L:=by
 refine xV L (fun i e f h1 h2=>?_);unfold bG at h;simp only [Bool.and_eq_true] at h;have hi:=(List.getElem?_eq_some_iff.1 h2).1;have h3:=(List.all_eq_true.1 h.2.2) (i+1) (List.mem_range.2 hi);rw [gq h2 h1,Bool.and_eq_true] at h3;exact of_decide_eq_true h3.2
theorem xU (h:jC (a :: r)):∀e ∈ r,a.2.1<e.2.1:=by
 induction r generalizing a with
 | nil=>intro e he;cases he
 | cons b r ih =>
  intro e he;rcases List.mem_cons.1 he with rfl | he
  · have:=h.1;omega
  · have h1:=ih h.2 e he;have:=h.1;omega
theorem yX (h:∀e ∈ L,q<e.2.1):aS q L=L:=by
 unfold aS;rw [List.filter_eq_self];intro e he;exact decide_eq_true (h e he)
theorem oZ (q:Int):∀{L:List ae},jC L→aS q L=L.drop (L.findIdx (dF q))
 | [],_=>rfl
 | a :: r,h=>by
  have ht:jC r:=by cases r with | nil=>trivial | cons b r=>exact h.2
  by_cases hq:q<a.2.1
  · have h1:dF q a=true:=decide_eq_true hq
    have h2:(a :: r).findIdx (dF q)=0:=by simp [List.findIdx_cons,h1]
    rw [h2,List.drop_zero]
    exact yX (fun e he=>by
     rcases List.mem_cons.1 he with rfl | he
     · exact hq
     · have:=xU h e he;omega)
  · have h1:dF q a=false:=decide_eq_false hq
    have h2:(a :: r).findIdx (dF q)=r.findIdx (dF q)+1:=by simp [List.findIdx_cons,h1]
    rw [h2,List.drop_succ_cons,← oZ q ht]
    unfold aS
    rw [List.filter_cons_of_neg (by rw [h1];decide)]
theorem o3 (a b:ae) (r:List ae):ef (a :: b :: r)=ef (b :: r):=by unfold ef;rw [List.getLast?_cons_cons]
theorem rJ:∃e ∈ a :: r,ef (a :: r)=e.2.1:=by
 induction r generalizing a with
 | nil=>exact ⟨a,by simp,rfl⟩
 | cons b r ih =>
  obtain ⟨e,he,h1⟩:=ih (a:=b);exact ⟨e,List.mem_cons_of_mem _ he,by rw [o3];exact h1⟩
theorem rI (h:jC (a :: r)):∀e ∈ a :: r,e.2.1≤ef (a :: r):=by
 induction r generalizing a with
 | nil=>intro e he;rw [List.mem_singleton.1 he];exact Int.le_refl _
 | cons b r ih =>
  rw [o3];intro e he;rcases List.mem_cons.1 he with rfl | he
  · have h1:=ih h.2 b (by simp);have:=h.1;omega
  · exact ih h.2 e he
theorem lm (hs:jC L) (hn:L≠[]):aS q L≠[] ↔ q<ef L:=by
 cases L with
 | nil=>exact absurd rfl hn
 | cons a r =>
  constructor
  · intro h;obtain ⟨e,he⟩:=List.exists_mem_of_ne_nil _ h;have h1:=List.mem_filter.1 he;have h2:=rI hs e h1.1;have h3:q<e.2.1:=of_decide_eq_true h1.2;omega
  · intro h h1;obtain ⟨e,he,h2⟩:=rJ (a:=a) (r:=r);have:e ∈ aS q (a :: r):=List.mem_filter.2 ⟨he,decide_eq_true (by omega)⟩;rw [h1] at this;cases this
theorem pN:∀(L:List ae) (m:Int),m≤L.foldl (fun m e=>max m e.2.1) m∧∀e ∈ L,e.2.1≤L.foldl (fun m e=>max m e.2.1) m
 | [],m=>⟨Int.le_refl _,fun e he=>by cases he⟩
 | a :: r,m=>by
  obtain ⟨h1,h2⟩:=pN r (max m a.2.1)
  refine ⟨by simp only [List.foldl_cons];omega,fun e he=>?_⟩
  rcases List.mem_cons.1 he with rfl | he
  · simp only [List.foldl_cons];omega
  · exact h2 e he
theorem yN:∀(L:List ae) (m:Int),L.foldl (fun m e=>max m e.2.1) m=m∨∃e ∈ L,L.foldl (fun m e=>max m e.2.1) m=e.2.1
 | [],m=>.inl rfl
 | a :: r,m=>by
  simp only [List.foldl_cons]
  rcases yN r (max m a.2.1) with h | ⟨e,he,h⟩
  · rw [h]
    rcases Int.le_total m a.2.1 with h1 | h1
    · exact .inr ⟨a,by simp,by omega⟩
    · exact .inl (by omega)
  · exact .inr ⟨e,List.mem_cons_of_mem _ he,h⟩
theorem yM {m:Int} (hs:jC L) (hq:q<ef L) (hn:L≠[]):(aS q L).foldl (fun m e=>max m e.2.1) m=max m (ef L):=by
 obtain ⟨h1,h2⟩:=pN (aS q L) m;cases L with
 | nil=>exact absurd rfl hn
 | cons a r =>
  obtain ⟨e,he,h3⟩:=rJ (a:=a) (r:=r);have h4:=h2 e (List.mem_filter.2 ⟨he,decide_eq_true (by omega)⟩);rcases yN (aS q (a :: r)) m with h | ⟨f,hf,h⟩
  · omega
  · have h5:=rI hs f (List.mem_filter.1 hf).1;omega
theorem ln (q:Int):∀(P:List (List ae)),(∀L ∈ P,bG L=true)→((bD q P).map (aS q)).flatten=(P.map (aS q)).flatten
 | [],_=>rfl
 | L :: P,h=>by
  have hd:=h L (by simp)
  have ih:=ln q P (fun M hM=>h M (List.mem_cons_of_mem _ hM))
  have hn:L≠[]:=fun e=>by rw [e] at hd;exact absurd hd (by rw [rZ (by simp)];decide)
  unfold bD at ih ⊢
  by_cases hq:q<ef L
  · rw [List.filter_cons_of_pos (by exact decide_eq_true hq)]
    simp only [List.map_cons,List.flatten_cons,ih]
  · rw [List.filter_cons_of_neg (by rw [decide_eq_false hq];decide)]
    have h1:aS q L=[]:=Classical.byContradiction fun h1=>hq ((lm (nI hd) hn).1 h1)
    simp only [List.map_cons,List.flatten_cons,h1,List.nil_append,ih]
theorem vI (q:Int) (P:List (List ae)) (h:∀L ∈ P,bG L=true):bh q (bD q P)=bh q P:=by unfold bh;rw [ln q P h]
theorem vH (h:∀L ∈ P,bG L=true):∀L ∈ bD q P,bG L=true:=fun L hL=>h L (List.mem_filter.1 hL).1
theorem yY (q:Int) (P:List (List ae)):q≤bh q P:=(pN _ _).1
theorem jm (h:P[k]?=some L):((P.take (k+1)).map (aS q)).flatten=((P.take k).map (aS q)).flatten++aS q L:=by
 rw [List.take_add_one,h,List.map_append,List.flatten_append];simp
theorem lq (h:P[k]?=some L):bh q (P.take (k+1))=(aS q L).foldl (fun m e=>max m e.2.1) (bh q (P.take k)):=by
 unfold bh;rw [jm h,List.foldl_append]
theorem oX (h:P[k]?=some L):bD q (P.take (k+1))=bD q (P.take k)++(if q<ef L then [L] else []):=by
 unfold bD;rw [List.take_add_one,h,List.filter_append];by_cases hq:q<ef L
 · simp [hq]
 · simp [hq]
theorem AD (X:Nat) (sd q d n:Int) (s t:ByteArray) (w:World) (h:w.cell? ⟨X,5,none⟩=some (iT sd)) :
 Calls Tryz.prog 142 #[.agg #[.string s,iT q,iT d,.string t,iT n],.pointer (pT X)] w fun e w'=>e=.returned (.bool (dF sd (s,q,d,t,n)))∧Bl w w':=by
 have hX:=World.block_lt_of_cell? _ _ h;simp only at hX;have k:Bl w (w.alloc (.cells #[.string s,iT q,iT d,.string t,iT n] 59)):=bZ;have h5:=cell_later k h;by_cases hq:sd<q
 · have hq':q > sd:=hq;go_enter Tryz.func142,Tryz.ntmps142
   go_wp2;go_ret;exact ⟨by unfold dF;simp [hq],k⟩
 · have hq':¬q > sd:=hq;go_enter Tryz.func142,Tryz.ntmps142
   go_wp2;go_ret;exact ⟨by unfold dF;simp [hq],k⟩
theorem wG {i:Nat} (h:L[i]?=some e) (he:dF sd e=true) (hw:∀(j:Nat) e,j<i→L[j]?=some e→dF sd e=false):L.findIdx (dF sd)=i:=by
 have hi:=(List.getElem?_eq_some_iff.1 h).1;rw [List.findIdx_eq hi];refine ⟨by rw [(List.getElem?_eq_some_iff.1 h).2];exact he,fun j hj=>hw j _ hj (List.getElem?_eq_getElem _)⟩
theorem yW {n:Nat} (hn:L.length=n) (hw:∀(j:Nat) e,j<n→L[j]?=some e→dF sd e=false):aS sd L=[]:=by
 unfold aS;rw [List.filter_eq_nil_iff];intro e he;obtain ⟨j,hj,rfl⟩:=List.getElem_of_mem he;rw [hw j _ (by omega) (List.getElem?_eq_getElem hj)];decide
def B7 (sd:Int) (L:List ae) (z:Int):Prop:=(z=-1∧aS sd L=[])∨(∃k:Nat,z=k∧k<L.length∧L.findIdx (dF sd)=k)
theorem vO (X:Nat) (sd:Int) (a:Option Addr) (n c:Nat) (L:List ae) (w:World) (hL:an w a n c L) (hx:w.cell? ⟨X,5,none⟩=some (iT sd)) :
 Calls Tryz.prog 141 #[.slice a n c,.func (.func 142) #[] #[.pointer (pT X)]] w fun e w'=>(∃z:Int,e=.returned (iT z)∧B7 sd L z)∧Bl w w':=by
 have HLN:Hid (L.length=n):=hL.length;have hr:=hL.room;have hbg:=hL.big;unfold maxLen at hbg;have H:=ar hL;have HX:=ar hx;clear hL hx;go_enter Tryz.func141,Tryz.ntmps141
 go_wp2;go_loopw [8] (fun iv wr=>∃i:Nat,i≤n∧iv=iT i∧Bl w wr∧(∀(j:Nat) e,j<i→L[j]?=some e→dF sd e=false)) (fun iv _=>n - (intOf iv).toNat)
 case atStart=>exact ⟨0,Nat.zero_le _,rfl,Below.refl _ _,fun j r hj=>absurd hj (Nat.not_lt_zero _)⟩
 case round =>
  obtain ⟨i,hi,rfl,hb,hw⟩:=hrel;have HW:Hid (∀(j:Nat) e,j<i→L[j]?=some e→dF sd e=false):=hw;have HB:Hid (Bl w wr):=hb;clear hw;by_cases hin:i<n
  · have hinI:(i:Int)<(n:Int):=by omega
    obtain ⟨b,off,rfl,hbb⟩:=H.out.form (by omega);obtain ⟨es,eq,ed,et,en,hg,_,e0,e1,e2,e3,e4⟩:=H.out.ent hb hbb i hin;have HG:Hid (L[i]?=some (es,eq,ed,et,en)):=hg;have zb:=Nat.lt_of_lt_of_le hbb hb.size;have CF:=AD X sd eq ed en es et wr (cell_later hb HX.out);obtain ⟨O,hO⟩:=aw (dF sd (es,eq,ed,et,en));have HO:Hid (O=dF sd (es,eq,ed,et,en)):=hO;rw [← hO] at CF;clear hg hb hO;go_wp2_with fail
    refine CF.mono ?_;rintro e w1 ⟨rfl,hb1⟩;have K1:Hid (Bl w w1):=HB.out.trans (hb1.mono HB.out.size);clear hb1 CF;cases hOv:O with
    | true =>
     have HN:Hid (L.findIdx (dF sd)=i):=wG HG.out (by rw [← HO.out];exact hOv) HW.out;go_wp2;go_ret;exact ⟨⟨(i:Int),rfl,Or.inr ⟨i,rfl,by rw [HLN.out];exact hin,HN.out⟩⟩,K1.out⟩
    | false =>
     have HN:Hid (∀(j:Nat) e,j<i+1→L[j]?=some e→dF sd e=false):=by
      intro j r hj hr;by_cases e:j=i
      · subst e;rw [HG.out] at hr;cases hr;rw [← HO.out];exact hOv
      · exact HW.out j r (by omega) hr
     go_wp2;go_roundw
     case rel=>exact ⟨i+1,by omega,by go_num,K1.out,HN.out⟩
     case measure=>simp [intOf];omega
  · have hinI:¬(i:Int)<(n:Int):=by omega
    have hni:i=n:=by omega
    have HN:Hid (aS sd L=[]):=yW HLN.out (fun j e hj h=>HW.out j e (by omega) h);clear hni;go_wp2;go_ret;exact ⟨⟨-1,rfl,Or.inl ⟨rfl,HN.out⟩⟩,HB.out⟩
def Tryz.lays170_ren : Go.Shelf.Ren := ⟨fun | 170 => 96 | n => n, fun | 70 => 133 | 3 => 3 | 0 => 0 | 72 => 135 | 37 => 104 | 5 => 5 | n => n, fun | n => n⟩
theorem Tryz.lays170 : Go.Proofs.Lays.n170 Tryz.prog Tryz.lays170_ren := {
  mixed := by kernel_rfl
  f170 := Tryz.func96.trans (congrArg some (by kernel_rfl))
  t0 := Tryz.underlying0
  a0 := Tryz.isAgg0
  z0 := Tryz.sizeOf0
  v0 := Tryz.zeroValue0
  t3 := Tryz.underlying3
  a3 := Tryz.isAgg3
  z3 := Tryz.sizeOf3
  v3 := Tryz.zeroValue3
  t37 := Tryz.underlying104
  a37 := Tryz.isAgg104
  z37 := Tryz.sizeOf104
  v37 := Tryz.zeroValue104
  t70 := Tryz.underlying133
  a70 := Tryz.isAgg133
  z70 := Tryz.sizeOf133
  v70 := Tryz.zeroValue133
  t72 := Tryz.underlying135
  a72 := Tryz.isAgg135
  z72 := Tryz.sizeOf135
  v72 := Tryz.zeroValue135 }
open Go.RowKit in
theorem Tryz.Builder_Len (B b : Nat) (bs : List Value) (w : World) (h : Lib.IsBuilder 135 5 B b bs w) :
    Calls Tryz.prog 96 #[.pointer (some ⟨b, 0, none⟩)] w fun e w' => e = .returned (.int .i64 bs.length) ∧ w' = w := Any.Builder_Len Tryz.lays170 B b bs w h
def Tryz.lays169_ren : Go.Shelf.Ren := ⟨fun | 169 => 97 | n => n, fun | 70 => 133 | 9 => 9 | 0 => 0 | 72 => 135 | 37 => 104 | 127 => 178 | 3 => 3 | 5 => 5 | n => n, fun | n => n⟩
theorem Tryz.lays169 : Go.Proofs.Lays.n169 Tryz.prog Tryz.lays169_ren := {
  mixed := by kernel_rfl
  f169 := Tryz.func97.trans (congrArg some (by kernel_rfl))
  t0 := Tryz.underlying0
  a0 := Tryz.isAgg0
  z0 := Tryz.sizeOf0
  v0 := Tryz.zeroValue0
  t3 := Tryz.underlying3
  a3 := Tryz.isAgg3
  z3 := Tryz.sizeOf3
  v3 := Tryz.zeroValue3
  t9 := Tryz.underlying9
  a9 := Tryz.isAgg9
  z9 := Tryz.sizeOf9
  v9 := Tryz.zeroValue9
  t37 := Tryz.underlying104
  a37 := Tryz.isAgg104
  z37 := Tryz.sizeOf104
  v37 := Tryz.zeroValue104
  t70 := Tryz.underlying133
  a70 := Tryz.isAgg133
  z70 := Tryz.sizeOf133
  v70 := Tryz.zeroValue133
  t72 := Tryz.underlying135
  a72 := Tryz.isAgg135
  z72 := Tryz.sizeOf135
  v72 := Tryz.zeroValue135
  t127 := Tryz.underlying178
  a127 := Tryz.isAgg178
  z127 := Tryz.sizeOf178
  v127 := Tryz.zeroValue178 }
theorem Tryz.Builder_Extra_169 : Builder.Extra Tryz.prog Tryz.lays169_ren := {
  sizeBuilder := by kernel_rfl
  liesBuilder := by kernel_rfl
  t5 := Tryz.underlying5
  a5 := Tryz.isAgg5
  z5 := Tryz.sizeOf5
  v5 := Tryz.zeroValue5
  infoByte := by kernel_rfl
  cellsByte := by kernel_rfl
  sizeByte := by kernel_rfl
  neB5 := by decide }
open Go.RowKit in
theorem Tryz.Builder_String_any (B b : Nat) (l : List UInt8) (w : World) (h : Lib.IsBuilder 135 5 B b (Lib.byteCells l) w) (hBw : B ≤ w.heap.size) :
    Calls Tryz.prog 97 #[.pointer (some ⟨b, 0, none⟩)] w fun e w' => e = .returned (.string ⟨l.toArray⟩) ∧ Below B w w' := Any.Builder_String_any Tryz.lays169 Tryz.Builder_Extra_169 B b l w h hBw
def Tryz.lays217_ren : Go.Shelf.Ren := ⟨fun | 217 => 210 | 266 => 213 | n => n, fun | 9 => 9 | 5 => 5 | 3 => 3 | n => n, fun | n => n⟩
theorem Tryz.lays217 : Go.Proofs.Lays.n217 Tryz.prog Tryz.lays217_ren := {
  mixed := by kernel_rfl
  f217 := Tryz.func210.trans (congrArg some (by kernel_rfl))
  f266 := Tryz.func213.trans (congrArg some (by kernel_rfl))
  t3 := Tryz.underlying3
  a3 := Tryz.isAgg3
  z3 := Tryz.sizeOf3
  v3 := Tryz.zeroValue3
  t5 := Tryz.underlying5
  a5 := Tryz.isAgg5
  z5 := Tryz.sizeOf5
  v5 := Tryz.zeroValue5
  t9 := Tryz.underlying9
  a9 := Tryz.isAgg9
  z9 := Tryz.sizeOf9
  v9 := Tryz.zeroValue9 }
open Go.RowKit Go.Lib in
theorem Tryz.stringslite_IndexByte (s : ByteArray) (c : Int) (w : World) :
    Calls Tryz.prog 210 #[.string s, .int .u8 c] w fun e w' => e = .returned (.int .i64 (Lib.indexByte s.data.toList c.toNat.toUInt8)) ∧ w' = w := Any.stringslite_IndexByte Tryz.lays217 s c w
end Go.Proofs.YtehiefdphnljaaaGreatDoor
