/- Walks. -/
import Derived.WalkKit
import Derived.Lib.Bytealg
import Derived.Lib.Small
import Derived.Lib.Strings
import Derived.WalkSpells
import Derived.WalkLawsBesides
import Derived.Test.YtehiefdphnljaaaGreatDoorProg
import Derived.ProofKit
import Derived.Lib.SmallJoins
import Derived.Deep.Slices
import Derived.Deep.Strs
import Derived.Deep.RegionWith
import Derived.Deep.LoopGhost
namespace Go.Proofs.YtehiefdphnljaaaGreatDoor
set_option maxRecDepth 100000
set_option maxHeartbeats 40000000
open Go.ChangeShapes Go.Deep Go.Joins Go.RowKit Go.WideShapes
variable {w:World}
abbrev nZ:Value:=.slice none 0 0
abbrev sL (b n c:Nat):Value:=.slice (some ⟨b,0,none⟩) n c
abbrev sO (b o n c:Nat):Value:=.slice (some ⟨b,o,none⟩) n c
abbrev pT (b:Nat):Option Addr:=some ⟨b,0,none⟩
abbrev aD (b o:Nat):Addr:=⟨b,o,none⟩
abbrev iT (q:Int):Value:=.int .i64 q
abbrev Bl (w w':World):Prop:=Below w.heap.size w w'
theorem bZ {o:Obj}:Below w.heap.size w (w.alloc o):=(Below.refl _ _).alloc (Nat.le_refl _) _
theorem mf {B b:Nat} {a:World} (h:Below B a w) (hB:B≤b) (v0 v1 v2 v3:Value):Below B a ((((w.setCell ⟨b,0,none⟩ v0).setCell ⟨b,1,none⟩ v1).setCell ⟨b,2,none⟩ v2).setCell ⟨b,3,none⟩ v3):=(((h.setCell (p:=⟨b,0,none⟩) hB _).setCell (p:=⟨b,1,none⟩) hB _).setCell (p:=⟨b,2,none⟩) hB _).setCell (p:=⟨b,3,none⟩) hB _
theorem ar {p:Prop} (h:p):Hid p:=h
theorem aw {α:Type} (a:α):∃x,x=a:=⟨a,rfl⟩
def BO (b:UInt8):Bool:=decide (97≤b.toNat) && decide (b.toNat≤122)
theorem lG (s:ByteArray) (k:Nat) (h:k<s.size):s.data.toList.take (k+1)=s.data.toList.take k++[s[k]]:=by
 rw [List.take_succ_eq_append_getElem (by simpa using h)];rfl
theorem aj {a b:Bool} (h:a=b):Ending.returned (.bool a)=.returned (.bool b):=by rw [h]
theorem gV {k:IntKind} {a b:Int} (h:a=b):Ending.returned (.int k a)=.returned (.int k b):=by rw [h]
end Go.Proofs.YtehiefdphnljaaaGreatDoor
namespace Go.Proofs.YtehiefdphnljaaaGreatDoor
open Go.RowKit
def fU (b:UInt8):Bool:=(decide (97≤b.toNat) && decide (b.toNat≤122)) || (decide (47≤b.toNat) && decide (b.toNat≤57))
def d6 (s:ByteArray):Bool:=decide (1≤s.size) && (decide (s.size≤8) && s.data.toList.all fU)
theorem o6 {b:UInt8} (h:fU b=true):(97≤(b.toNat:Int)∧(b.toNat:Int)≤122)∨(47≤(b.toNat:Int)∧(b.toNat:Int)≤57):=by
 simp [fU] at h;omega
theorem m7 {b:UInt8} (h:fU b=false):(b.toNat:Int)<47∨(57<(b.toNat:Int)∧(b.toNat:Int)<97)∨122<(b.toNat:Int):=by
 simp [fU] at h;by_cases h1:b.toNat<47
 · exact Or.inl (by omega)
 · by_cases h2:b.toNat<97
   · exact Or.inr (Or.inl (by omega))
   · exact Or.inr (Or.inr (by omega))
theorem gc (s:ByteArray) (k:Nat) (h:k<s.size) (ha:(s.data.toList.take k).all fU=true) (hb:fU s[k]=true):(s.data.toList.take (k+1)).all fU=true:=by
 rw [lG s k h,List.all_append,ha];simp [hb]
theorem fF (s:ByteArray) (k:Nat) (h:k<s.size) (hb:fU s[k]=false):d6 s=false:=by
 have:s.data.toList.all fU=false:=by
  rw [Bool.eq_false_iff];intro hall;rw [List.all_eq_true] at hall;have hm:s[k] ∈ s.data.toList:=by
   have:s.data.toList[k]'(by simpa using h)=s[k]:=rfl;rw [← this];exact List.getElem_mem _
  rw [hall _ hm] at hb;cases hb
 unfold d6;rw [this];simp
theorem tJ (s:ByteArray) (h:s.size<1):d6 s=false:=by
 unfold d6;have:decide (1≤s.size)=false:=decide_eq_false (by omega);rw [this];rfl
theorem rK (s:ByteArray) (h:8<s.size):d6 s=false:=by
 unfold d6;have:decide (s.size≤8)=false:=decide_eq_false (by omega);rw [this];simp
theorem lP (s:ByteArray) (k:Nat) (hk:s.size≤k) (ha:(s.data.toList.take k).all fU=true):d6 s=(decide (1≤s.size) && decide (s.size≤8)):=by
 unfold d6;rw [List.take_of_length_le (by simpa using hk)] at ha;simp [ha]
theorem y9 (s:ByteArray) (h1:1≤s.size) (h8:s.size≤8) (k:Nat) (hk:s.size≤k) (ha:(s.data.toList.take k).all fU=true):d6 s=true:=by
 rw [lP s k hk ha];simp [h1,h8]
theorem Ap (n:Nat) (h:1≤(n:Int)):decide ((n:Int)≤8)=(decide (1≤n) && decide (n≤8)):=by
 have h1:decide (1≤n)=true:=decide_eq_true (by omega);rw [h1,Bool.true_and,Bool.eq_iff_iff];simp;omega
theorem Ba (n:Nat) (h:(n:Int)<1):false=(decide (1≤n) && decide (n≤8)):=by
 have h1:decide (1≤n)=false:=decide_eq_false (by omega);rw [h1];rfl
abbrev ae:=ByteArray × Int × Int × ByteArray × Int
def eZ (d:Int) (t:ByteArray) (n:Int):Bool :=
 if d=1 then true else if d=2 then decide (t.size=0) && decide (n=0) else if d=3 then decide (t.size=0) else false
def cV (k:ByteArray) (q d:Int) (t:ByteArray) (n:Int):Bool :=
 d6 k && (decide (1≤q) && (decide (q≤100000) && (decide (-1000000≤n) && (decide (n≤1000000) && (decide (t.size≤60) && eZ d t n)))))
theorem iQ {k t:ByteArray} {q d n:Int} (h:d6 k=false):cV k q d t n=false:=by simp [cV,h]
theorem qs {k t:ByteArray} {q d n:Int} (h:q<1):cV k q d t n=false:=by
 have:decide (1≤q)=false:=decide_eq_false (by omega);simp [cV,this]
theorem qr {k t:ByteArray} {q d n:Int} (h:100000<q):cV k q d t n=false:=by
 have:decide (q≤100000)=false:=decide_eq_false (by omega);simp [cV,this]
theorem qu {k t:ByteArray} {q d n:Int} (h:n < -1000000):cV k q d t n=false:=by
 have:decide (-1000000≤n)=false:=decide_eq_false (by omega);simp [cV,this]
theorem qt {k t:ByteArray} {q d n:Int} (h:1000000<n):cV k q d t n=false:=by
 have:decide (n≤1000000)=false:=decide_eq_false (by omega);simp [cV,this]
theorem ue {k t:ByteArray} {q d n:Int} (h:60<t.size):cV k q d t n=false:=by
 have:decide (t.size≤60)=false:=decide_eq_false (by omega);simp [cV,this]
theorem dp {k t:ByteArray} {q d n:Int} (h:d6 k=true) (h1:1≤q) (h2:q≤100000) (h3:-1000000≤n) (h4:n≤1000000) (h5:t.size≤60):cV k q d t n=eZ d t n:=by
 simp [cV,h,h1,h2,h3,h4,h5]
theorem eP {t:ByteArray} (h:t≠ByteArray.empty):t.size≠0:=by
 intro h0;apply h;apply ByteArray.ext;exact Array.eq_empty_of_size_eq_zero h0
theorem jc {t:ByteArray} (h:t≠ByteArray.empty):¬t.toList=[]:=by
 intro h0;apply h;rw [ByteArray.toList_eq] at h0;apply ByteArray.ext;exact Array.toList_eq_nil_iff.1 h0
theorem uB {t:ByteArray} {n:Int}:eZ 1 t n=true:=by simp [eZ]
theorem jo {t:ByteArray} {n:Int}:eZ 2 t n=(decide (t.size=0) && decide (n=0)):=by simp [eZ]
theorem mw {t:ByteArray} {n:Int}:eZ 3 t n=decide (t.size=0):=by simp [eZ]
theorem pZ {d:Int} {t:ByteArray} {n:Int} (h1:d≠1) (h2:d≠2) (h3:d≠3):eZ d t n=false:=by simp [eZ,h1,h2,h3]
end Go.Proofs.YtehiefdphnljaaaGreatDoor
namespace Go.Proofs.YtehiefdphnljaaaGreatDoor
open Go.RowKit
theorem gE:∀(a b:List UInt8),(Lib.compareBytes a b=-1∧Op.bytesLess a b=true∧a≠b)∨(Lib.compareBytes a b=0∧Op.bytesLess a b=false∧a=b)∨(Lib.compareBytes a b=1∧Op.bytesLess a b=false∧a≠b)
 | [],[]=>Or.inr (Or.inl ⟨rfl,rfl,rfl⟩)
 | [],_ :: _=>Or.inl ⟨rfl,rfl,by simp⟩
 | _ :: _,[]=>Or.inr (Or.inr ⟨rfl,rfl,by simp⟩)
 | x :: a,y :: b=>by
  have ih:=gE a b
  unfold Lib.compareBytes Op.bytesLess
  by_cases h1:x<y
  · have hne:x≠y:=fun e=>UInt8.lt_irrefl y (e ▸ h1)
    exact Or.inl ⟨by simp [h1],by simp [h1],fun e=>hne (by simpa using (List.cons.inj e).1)⟩
  · by_cases h2:y<x
    · have hne:x≠y:=fun e=>UInt8.lt_irrefl y (e ▸ h2)
      exact Or.inr (Or.inr ⟨by simp [h1,h2],by simp [h1,hne],fun e=>hne (by simpa using (List.cons.inj e).1)⟩)
    · have he:x=y:=UInt8.le_antisymm (UInt8.not_lt.1 h2) (UInt8.not_lt.1 h1)
      subst he
      rcases ih with ⟨p,q,r⟩ | ⟨p,q,r⟩ | ⟨p,q,r⟩
      · exact Or.inl ⟨by simp [h1,p],by simp [q],by simpa using r⟩
      · exact Or.inr (Or.inl ⟨by simp [h1,p],by simp [h1,q],by simpa using r⟩)
      · exact Or.inr (Or.inr ⟨by simp [h1,p],by simp [h1,q],by simpa using r⟩)
def b6 (ka:ByteArray) (qa:Int) (kb:ByteArray) (qb:Int):Bool :=
 Op.bytesLess ka.data.toList kb.data.toList || (decide (ka=kb) && decide (qb<qa))
end Go.Proofs.YtehiefdphnljaaaGreatDoor
namespace Go.Proofs.YtehiefdphnljaaaGreatDoor
open Go.RowKit
theorem eD:∀a:List UInt8,Op.bytesLess a a=false
 | []=>rfl
 | x :: a=>by
  unfold Op.bytesLess
  have:=eD a
  simp [this]
theorem l5:∀a b:List UInt8,Op.bytesLess a b=true→Op.bytesLess b a=false
 | [],[],h=>by simp [Op.bytesLess] at h
 | [],_ :: _,_=>rfl
 | _ :: _,[],h=>by simp [Op.bytesLess] at h
 | x :: a,y :: b,h=>by
  unfold Op.bytesLess at h ⊢
  have ih:=l5 a b
  simp only [Bool.or_eq_true,decide_eq_true_eq,Bool.and_eq_true,beq_iff_eq] at h
  rcases h with h | ⟨rfl,h⟩
  · have h1:¬y<x:=fun g=>UInt8.lt_asymm h g
    have h2:¬y=x:=fun g=>UInt8.lt_irrefl x (by rw [g] at h;exact h)
    simp [h1,h2]
  · simp [ih h]
theorem l4:∀a b:List UInt8,a≠b→Op.bytesLess a b=true∨Op.bytesLess b a=true
 | [],[],h=>absurd rfl h
 | [],_ :: _,_=>Or.inl rfl
 | _ :: _,[],_=>Or.inr rfl
 | x :: a,y :: b,h=>by
  unfold Op.bytesLess
  by_cases h1:x<y
  · left;simp [h1]
  · by_cases h2:y<x
    · right;simp [h2]
    · have he:x=y:=UInt8.le_antisymm (UInt8.not_lt.1 h2) (UInt8.not_lt.1 h1)
      subst he
      have ih:=l4 a b (fun e=>h (by rw [e]))
      rcases ih with ih | ih
      · left;simp [ih]
      · right;simp [ih]
theorem dP:∀a b c:List UInt8,Op.bytesLess a b=true→Op.bytesLess b c=true→Op.bytesLess a c=true
 | _,_,[],_,h=>by simp [Op.bytesLess] at h
 | [],_,_ :: _,_,_=>rfl
 | _ :: _,[],_ :: _,h,_=>by simp [Op.bytesLess] at h
 | x :: a,y :: b,z :: c,h,k=>by
  unfold Op.bytesLess at h k ⊢
  simp only [Bool.or_eq_true,decide_eq_true_eq,Bool.and_eq_true,beq_iff_eq] at h k ⊢
  rcases h with h | ⟨rfl,h⟩
  · rcases k with k | ⟨rfl,k⟩
    · exact Or.inl (UInt8.lt_trans h k)
    · exact Or.inl h
  · rcases k with k | ⟨rfl,k⟩
    · exact Or.inl k
    · exact Or.inr ⟨rfl,dP a b c h k⟩
theorem ie (k:ByteArray) (q:Int):b6 k q k q=false:=by
 unfold b6;simp [eD]
theorem eC {ka kb:ByteArray} {qa qb:Int} (h:b6 ka qa kb qb=true):Op.bytesLess ka.data.toList kb.data.toList=true∨(ka=kb∧qb<qa):=by
 unfold b6 at h;simpa using h
theorem rG {ka kb:ByteArray} {qa qb:Int} (h:b6 ka qa kb qb=true):b6 kb qb ka qa=false:=by
 rcases eC h with h | ⟨rfl,h⟩
 · have h1:=l5 _ _ h;have h2:¬kb=ka:=fun e=>by rw [e,eD] at h;cases h
   unfold b6;simp [h1,h2]
 · unfold b6;have:¬qa<qb:=by omega
   simp [eD,this]
theorem fY {ka kb kc:ByteArray} {qa qb qc:Int} (h:b6 ka qa kb qb=true) (k:b6 kb qb kc qc=true):b6 ka qa kc qc=true:=by
 unfold b6;rcases eC h with h | ⟨rfl,h⟩
 · rcases eC k with k | ⟨rfl,k⟩
   · simp [dP _ _ _ h k]
   · simp [h]
 · rcases eC k with k | ⟨rfl,k⟩
   · simp [k]
   · have:qc<qa:=by omega
     simp [this]
theorem vF (ka kb:ByteArray) (qa qb:Int):(b6 ka qa kb qb || b6 kb qb ka qa)=(decide (¬ka=kb) || decide (¬qa=qb)):=by
 by_cases he:ka=kb
 · subst he;unfold b6;rw [eD];by_cases h1:qb<qa
   · have:¬qa=qb:=by omega
     simp [h1,this]
   · by_cases h2:qa<qb
     · have:¬qa=qb:=by omega
       simp [h2,this]
     · have:qa=qb:=by omega
       simp [this]
 · have hne:ka.data.toList≠kb.data.toList:=fun e=>he (ByteArray.ext (Array.toList_inj.1 e))
   unfold b6;rcases l4 _ _ hne with h | h <;> simp [h,he]
end Go.Proofs.YtehiefdphnljaaaGreatDoor
namespace Go.Proofs.YtehiefdphnljaaaGreatDoor
open Go.RowKit
def rS (h:Nat) (b:UInt8):Nat:=(31*h+b.toNat) % 65521
def iA (l:List UInt8):Nat:=l.foldl rS 7
def uy (h:Nat):Nat:=2 ^ (h % 16) ||| 2 ^ (h / 16 % 16)
def gy (s:ByteArray):Nat:=uy (iA s.data.toList)
theorem pg (s:ByteArray) (k:Nat) (h:k<s.size):iA (s.data.toList.take (k+1))=rS (iA (s.data.toList.take k)) s[k]:=by
 rw [lG s k h];simp [iA]
theorem fe {a:Nat} (h:a<16):2 ^ a<65536:=by
 have:2 ^ a<2 ^ 16:=Nat.pow_lt_pow_right (by omega) h;exact this
theorem iK {a b:Nat} (ha:a<65536) (hb:b<65536):a ||| b<65536:=Nat.or_lt_two_pow (n:=16) ha hb
theorem yO (h:Nat):uy h<65536:=iK (fe (Nat.mod_lt _ (by omega))) (fe (Nat.mod_lt _ (by omega)))
theorem rq (s:ByteArray):gy s<65536:=yO _
theorem Az (a b i:Nat):(a ||| b) / 2 ^ i=(a ||| b) / 2 ^ (i+1)*2+(if a / 2 ^ i % 2=1∨b / 2 ^ i % 2=1 then 1 else 0):=by
 have h1:(a ||| b).testBit i=(a.testBit i || b.testBit i):=Nat.testBit_or ..;rw [Nat.testBit_eq_decide_div_mod_eq,Nat.testBit_eq_decide_div_mod_eq,Nat.testBit_eq_decide_div_mod_eq] at h1;have h2:(a ||| b) / 2 ^ (i+1)=(a ||| b) / 2 ^ i / 2:=by rw [Nat.pow_succ,Nat.div_div_eq_div_mul]
 rw [h2];by_cases h3:a / 2 ^ i % 2=1∨b / 2 ^ i % 2=1
 · rw [if_pos h3];have:(a ||| b) / 2 ^ i % 2=1:=by
    have:decide ((a ||| b) / 2 ^ i % 2=1)=true:=by rw [h1];simpa using h3
    exact of_decide_eq_true this
   omega
 · rw [if_neg h3];have:¬(a ||| b) / 2 ^ i % 2=1:=by
    have:decide ((a ||| b) / 2 ^ i % 2=1)=false:=by
     rw [h1];have h4:¬a / 2 ^ i % 2=1:=fun e=>h3 (Or.inl e)
     have h5:¬b / 2 ^ i % 2=1:=fun e=>h3 (Or.inr e)
     simp [h4,h5]
    exact of_decide_eq_false this
   omega
def eY (L:List ae):Nat:=L.foldl (fun m e=>m ||| gy e.1) 0
theorem mX {L:List ae} {k:Nat} {e:ae} (h:L[k]?=some e):eY (L.take (k+1))=eY (L.take k) ||| gy e.1:=by
 rw [List.take_add_one,h];simp [eY]
def jK (L:List ae) (j:Nat):Bool :=
 match L[j]? with
 | none=>true
 | some e=>cV e.1 e.2.1 e.2.2.1 e.2.2.2.1 e.2.2.2.2 && (match j with | 0=>true | i+1=>match L[i]? with | none=>true | some d=>b6 d.1 d.2.1 e.1 e.2.1)
def bz (L:List ae):Bool:=(List.range L.length).all (jK L)
def ix (L:List ae) (k:Nat):Prop:=∀j,j<k→jK L j=true
theorem rc {L:List ae} {k:Nat} (h:ix L k) (hk:L.length≤k):bz L=true:=by
 unfold bz;rw [List.all_eq_true];intro j hj;exact h j (by have:=List.mem_range.1 hj;omega)
theorem kh {L:List ae} {k:Nat} (hk:k<L.length) (h:jK L k=false):bz L=false:=by
 rw [Bool.eq_false_iff];intro h1;unfold bz at h1;rw [List.all_eq_true] at h1;rw [h1 k (List.mem_range.2 hk)] at h;cases h
theorem gP {L:List ae} {k:Nat} (h:ix L k) (hk:jK L k=true):ix L (k+1):=by
 intro j hj;by_cases e:j=k
 · rw [e];exact hk
 · exact h j (by omega)
theorem oQ {L:List ae} {e:ae} (h:L[0]?=some e):jK L 0=cV e.1 e.2.1 e.2.2.1 e.2.2.2.1 e.2.2.2.2:=by
 unfold jK;rw [h];simp
theorem lh {L:List ae} {i:Nat} {d e:ae} (h:L[i+1]?=some e) (g:L[i]?=some d):jK L (i+1)=(cV e.1 e.2.1 e.2.2.1 e.2.2.2.1 e.2.2.2.2 && b6 d.1 d.2.1 e.1 e.2.1):=by
 unfold jK;simp only [h,g]
theorem mU {L:List ae} {k:Nat} {e:ae} (h:L[k]?=some e) (g:cV e.1 e.2.1 e.2.2.1 e.2.2.2.1 e.2.2.2.2=false):jK L k=false:=by
 unfold jK;rw [h];simp [g]
def dZ (L:List ae) (m:Int):Bool:=decide (1≤L.length) && (decide (L.length≤150) && (bz L && decide (m=eY L)))
theorem qY {L:List ae} {m:Int} (h:L.length<1):dZ L m=false:=by
 have:decide (1≤L.length)=false:=decide_eq_false (by omega);simp [dZ,this]
theorem oM {L:List ae} {m:Int} (h:150<L.length):dZ L m=false:=by
 have:decide (L.length≤150)=false:=decide_eq_false (by omega);simp [dZ,this]
theorem mR {L:List ae} {m:Int} (h:bz L=false):dZ L m=false:=by simp [dZ,h]
theorem oK {L:List ae} {m:Int} (h1:1≤L.length) (h2:L.length≤150) (h3:bz L=true):dZ L m=decide (m=eY L):=by
 simp [dZ,h1,h2,h3]
end Go.Proofs.YtehiefdphnljaaaGreatDoor
namespace Go.Proofs.YtehiefdphnljaaaGreatDoor
open Go.RowKit
theorem re {L:List ae} (h:bz L=true) (j:Nat) (hj:j<L.length):jK L j=true:=by
 unfold bz at h;rw [List.all_eq_true] at h;exact h j (List.mem_range.2 hj)
theorem oO {L:List ae} (h:bz L=true) {j:Nat} {e:ae} (hj:L[j]?=some e):cV e.1 e.2.1 e.2.2.1 e.2.2.2.1 e.2.2.2.2=true:=by
 have h1:=re h j (List.getElem?_eq_some_iff.1 hj).1;cases g:cV e.1 e.2.1 e.2.2.1 e.2.2.2.1 e.2.2.2.2 with
 | true=>rfl
 | false=>rw [mU hj g] at h1;cases h1
theorem td {L:List ae} (h:bz L=true) {j:Nat} {d e:ae} (hd:L[j]?=some d) (he:L[j+1]?=some e):b6 d.1 d.2.1 e.1 e.2.1=true:=by
 have h1:=re h (j+1) (List.getElem?_eq_some_iff.1 he).1;rw [lh he hd] at h1;simp at h1;exact h1.2
theorem gU {L:List ae} (h:bz L=true) {i j:Nat} (hij:i<j) {d e:ae} (hd:L[i]?=some d) (he:L[j]?=some e):b6 d.1 d.2.1 e.1 e.2.1=true:=by
 induction j generalizing e with
 | zero=>omega
 | succ j ih =>
  have hj:j<L.length:=by have:=(List.getElem?_eq_some_iff.1 he).1;omega
  have hg:L[j]?=some L[j]:=List.getElem?_eq_getElem hj;have hn:=td h hg he;by_cases e1:i=j
  · subst e1;rw [hg] at hd;cases hd;exact hn
  · exact fY (ih (by omega) hg) hn
theorem zL {k t:ByteArray} {q d n:Int} (h:cV k q d t n=true):1≤q∧q≤100000:=by
 simp [cV] at h;exact ⟨h.2.1,h.2.2.1⟩
theorem bI {L:List ae} {m:Int} (h:dZ L m=true):1≤L.length∧L.length≤150∧bz L=true∧m=eY L:=by
 simpa [dZ] using h
end Go.Proofs.YtehiefdphnljaaaGreatDoor
namespace Go.Proofs.YtehiefdphnljaaaGreatDoor
set_option maxRecDepth 100000
set_option maxHeartbeats 40000000
open Go.ChangeShapes Go.Deep Go.Joins Go.RowKit Go.WideShapes
variable {B b base cap fuel k len:Nat} {L:List ae} {W w w':World} {a:Option Addr} {held:Bool} {xs:List Value}
theorem uN {w1:World} (hb:Bl W w1):(∀b o,b<W.heap.size→w1.cell? ⟨b,o,none⟩=W.cell? ⟨b,o,none⟩)∧(∀b o,b<W.heap.size→w1.frozen? ⟨b,o,none⟩=W.frozen? ⟨b,o,none⟩) :=
 ⟨fun b o h=>hb.cell (p:=⟨b,o,none⟩) h,fun b o h=>hb.frozen (p:=⟨b,o,none⟩) h⟩
theorem Tryz.cellsEntL:Tryz.prog.cellsOf 54=5:=by kernel_rfl
def dt (e:ae):Prop:=e.1.size≤maxLen∧(Lit.int .i64 e.2.1).wf=true∧(Lit.int .i64 e.2.2.1).wf=true∧e.2.2.2.1.size≤maxLen∧(Lit.int .i64 e.2.2.2.2).wf=true
theorem xS (k t:ByteArray) (q d n left:Int) (w:World) (hk:k.size≤maxLen) (ht:t.size≤maxLen) (h0:0≤left) (h1:left≤1048576) (h:left<k.size+t.size) :
 Calls Tryz.prog 17 #[.agg #[.string k,iT q,iT d,.string t,iT n],iT left] w fun e w'=>e=.returned (iT (-1))∧Bl w w':=by
 unfold maxLen at hk ht;by_cases hc:left<k.size
 · go_enter Tryz.func17,Tryz.ntmps17
   go_wp2;go_ret;exact ⟨rfl,bZ⟩
 · go_enter Tryz.func17,Tryz.ntmps17
   go_wp2;go_ret;exact ⟨rfl,bZ⟩
theorem vd (k t:ByteArray) (q d n left:Int) (w:World) (h1:left≤1048576) (h:(k.size:Int)+t.size≤left) :
 Calls Tryz.prog 17 #[.agg #[.string k,iT q,iT d,.string t,iT n],iT left] w fun e w'=>e=.returned (iT (left - k.size - t.size))∧Bl w w':=by
 go_enter Tryz.func17,Tryz.ntmps17
 go_wp2;go_ret;exact ⟨rfl,bZ⟩
theorem uX (k t:ByteArray) (q d n:Int) (w:World) :
 Calls Tryz.prog 23 #[.agg #[.string k,iT q,iT d,.string t,iT n]] w fun e w'=>e=.returned (.agg #[.string k,iT q,iT d,.string t,iT n])∧Bl w w':=by
 go_enter Tryz.func23,Tryz.ntmps23
 go_wp2;refine bodyPost_ret (v:=.agg #[.string k,iT q,iT d,.string t,iT n]) (by simp [results,Tryz.results23,go_sem]) rfl ⟨rfl,?_⟩;exact (bZ.alloc (by simp) _).alloc (by simp;omega) _
def kS (w:World) (b o:Nat) (e:ae):Prop:=w.cell? ⟨b,o,none⟩=some (.string e.1)∧w.cell? ⟨b,o+1,none⟩=some (iT e.2.1)∧w.cell? ⟨b,o+2,none⟩=some (iT e.2.2.1)∧w.cell? ⟨b,o+3,none⟩=some (.string e.2.2.2.1)∧w.cell? ⟨b,o+4,none⟩=some (iT e.2.2.2.2)
theorem kS.moved {o:Nat} {e:ae} (h:kS w b o e) (hc:∀o,w'.cell? ⟨b,o,none⟩=w.cell? ⟨b,o,none⟩):kS w' b o e :=
 ⟨(hc _).trans h.1,(hc _).trans h.2.1,(hc _).trans h.2.2.1,(hc _).trans h.2.2.2.1,(hc _).trans h.2.2.2.2⟩
structure an (w:World) (a:Option Addr) (len cap:Nat) (L:List ae):Prop where
 length:L.length=len
 room:len≤cap
 big:cap≤maxLen
 ents:∀e ∈ L,dt e
 nil:a=none→len=0
 lies:∀x,a=some x→0<len→x.block<w.heap.size∧x.spot=none
 cells:∀x,a=some x→∀i (h:i<L.length),kS w x.block (x.off+i*5) L[i]
theorem an.moved (h:an w a len cap L) (hs:w.heap.size≤w'.heap.size) (hc:∀x,a=some x→0<len→∀o,w'.cell? ⟨x.block,o,none⟩=w.cell? ⟨x.block,o,none⟩):an w' a len cap L where
 length:=h.length
 room:=h.room
 big:=h.big
 ents:=h.ents
 nil:=h.nil
 lies:=fun x e hp=>⟨Nat.lt_of_lt_of_le (h.lies x e hp).1 hs,(h.lies x e hp).2⟩
 cells:=fun x e i hi=>(h.cells x e i hi).moved (hc x e (by have:=h.length;omega))
theorem an.below (h:an w a len cap L) (hb:Below B w w') (hB:∀x,a=some x→0<len→x.block<B):an w' a len cap L :=
 h.moved hb.size (fun x e hp o=>hb.cell (p:=⟨x.block,o,none⟩) (hB x e hp))
theorem an.keep (h:an w a len cap L) (hb:Bl w w'):an w' a len cap L:=h.below hb (fun x e hp=>(h.lies x e hp).1)
theorem an.setCell (h:an w a len cap L) (p:Addr) (u:Value) (hp:∀x,a=some x→0<len→x.block≠p.block):an (w.setCell p u) a len cap L :=
 h.moved (by simp [World.setCell]) (fun x e hl o=>World.cell?_of_block (by rw [Below.heap_setCell _ _ _ _ (hp x e hl)]))
theorem an.ent {wr:World} {off:Nat} (h:an w (some ⟨b,off,none⟩) len cap L) (hb:Below B w wr) (hB:b<B) (k:Nat) (hk:k<len) :
 ∃s q d t n,L[k]?=some (s,q,d,t,n)∧dt (s,q,d,t,n)∧wr.cell? ⟨b,off+k*5,none⟩=some (.string s)∧wr.cell? ⟨b,off+k*5+1,none⟩=some (iT q)∧wr.cell? ⟨b,off+k*5+2,none⟩=some (iT d)∧wr.cell? ⟨b,off+k*5+3,none⟩=some (.string t)∧wr.cell? ⟨b,off+k*5+4,none⟩=some (iT n):=by
 have hk':k<L.length:=by rw [h.length];exact hk
 obtain ⟨c0,c1,c2,c3,c4⟩:=(h.cells _ rfl k hk').moved (fun o=>hb.cell (p:=⟨b,o,none⟩) hB);exact ⟨L[k].1,L[k].2.1,L[k].2.2.1,L[k].2.2.2.1,L[k].2.2.2.2,List.getElem?_eq_getElem hk',h.ents _ (List.getElem_mem hk'),c0,c1,c2,c3,c4⟩
theorem an.form (h:an w a len cap L) (hl:1≤len):∃b off,a=some ⟨b,off,none⟩∧b<w.heap.size:=by
 cases a with
 | none=>have:=h.nil rfl;omega
 | some x =>
  obtain ⟨b,off,spot⟩:=x;obtain ⟨h1,h2⟩:=h.lies _ rfl (by omega);simp only at h1 h2;subst h2;exact ⟨b,off,rfl,h1⟩
theorem pC {H:Type} {enc:TypeId × Value→H} {P:Program} {spare:Nat→Bool} {t:TypeId} {f0 f1 f2 f3 f4:Field} {cs:List Value} {x:DataW H × List MemPlace} (ht:P.underlying t=some (.struct #[f0,f1,f2,f3,f4])) (h:DataW.trod enc P w base spare held fuel t cs=some x) :
 ∃y0 y1 y2 y3 y4 n,DataW.trod enc P w base spare held n f0.type ((cs.drop f0.offset).take (P.cellsOf f0.type))=some y0∧DataW.trod enc P w base spare held n f1.type ((cs.drop f1.offset).take (P.cellsOf f1.type))=some y1∧DataW.trod enc P w base spare held n f2.type ((cs.drop f2.offset).take (P.cellsOf f2.type))=some y2∧DataW.trod enc P w base spare held n f3.type ((cs.drop f3.offset).take (P.cellsOf f3.type))=some y3∧DataW.trod enc P w base spare held n f4.type ((cs.drop f4.offset).take (P.cellsOf f4.type))=some y4:=by
 obtain ⟨xs,n,_,rfl,hl,hlen,hf⟩:=DataW.trod_struct ht h;match xs,hlen with
 | [y0,y1,y2,y3,y4],_=>exact ⟨y0,y1,y2,y3,y4,n,by simpa using hf 0 f0 rfl,by simpa using hf 1 f1 rfl,by simpa using hf 2 f2 rfl,by simpa using hf 3 f3 rfl,by simpa using hf 4 f4 rfl⟩
theorem ld {H:Type} {enc:TypeId × Value→H} {v:Value} {x:DataW H × List MemPlace} (hy1:DataW.trod enc Tryz.prog W base (fun _=>true) held fuel 22 [v]=some x) :
 ∃(a:Option Addr) (len cap:Nat) (L:List ae),v=.slice a len cap∧an W a len cap L:=by
 rcases Deep.open_slice Tryz.underlying22 hy1 with ⟨hcs,_⟩ | ⟨a,len,cap,mm,n,D,Pl,hcs,hb,hl,hm,hmm,_,hx⟩
 · simp at hcs;subst hcs;exact ⟨none,0,0,[],rfl,⟨rfl,Nat.le_refl _,Nat.zero_le _,by simp,fun _=>rfl,(fun x e=>by cases e),(fun x e=>by cases e)⟩⟩
 · simp at hcs;subst hcs;simp at hmm;rw [Tryz.cellsEntL] at hx;have each:∀i,i<mm→∃l:ae,dt l∧W.cell? (a.add (i*5))=some (.string l.1)∧W.cell? (a.add (i*5+1))=some (iT l.2.1)∧W.cell? (a.add (i*5+2))=some (iT l.2.2.1)∧W.cell? (a.add (i*5+3))=some (.string l.2.2.2.1)∧W.cell? (a.add (i*5+4))=some (iT l.2.2.2.2):=by
    intro i hi;obtain ⟨cs',g1,g2⟩:=hx i hi;obtain ⟨_,hlen,hcell⟩:=World.cells?_some g1;obtain ⟨z0,z1,z2,z3,z4,n',t0,t1,t2,t3,t4⟩:=pC Tryz.underlying54 g2;match cs',hlen with
    | [u0,u1,u2,u3,u4],_ =>
     have k0:=hcell 0 (by omega);have k1:=hcell 1 (by omega);have k2:=hcell 2 (by omega);have k3:=hcell 3 (by omega);have k4:=hcell 4 (by omega);rw [Deep.add_add] at k0 k1 k2 k3 k4;obtain ⟨s,q0,_,ws⟩:=DataW.trod_string Tryz.underlying9 t0;obtain ⟨q,q1,_,wq⟩:=DataW.trod_int Tryz.underlying3 t1;obtain ⟨d,q2,_,wd⟩:=DataW.trod_int Tryz.underlying3 t2;obtain ⟨t,q3,_,wt⟩:=DataW.trod_string Tryz.underlying9 t3;obtain ⟨nn,q4,_,wn⟩:=DataW.trod_int Tryz.underlying3 t4;have r3:Tryz.prog.cellsOf 9=1:=by kernel_rfl
     have r4:Tryz.prog.cellsOf 3=1:=by kernel_rfl
     simp [r3,r4] at q0 q1 q2 q3 q4;subst q0 q1 q2 q3 q4;exact ⟨(s,q,d,t,nn),⟨ws,wq,wd,wt,wn⟩,by simpa using k0,by simpa using k1,by simpa using k2,by simpa using k3,by simpa using k4⟩
   obtain ⟨f,hf⟩:=Deep.choose_lt each;have spot:0<len→a.spot=none:=fun hp=>by
    have:=(hf 0 (by omega)).2.1;simpa [Addr.add] using World.cell?_spot this
   have plain:0<len→∀j,a.add j=⟨a.block,a.off+j,none⟩:=fun hp j=>by
    have:=spot hp;obtain ⟨b,o,sp⟩:=a;simp only at this;subst this;exact add_plain _ _ _
   refine ⟨some a,len,cap,(List.range len).map f,rfl,⟨by simp,hl,hm,?_,(fun e=>by cases e),?_,?_⟩⟩
   · intro l hl';obtain ⟨i,hi,rfl⟩:=List.mem_map.1 hl';exact (hf i (by have:=List.mem_range.1 hi;omega)).1
   · rintro x e hp;cases e;refine ⟨?_,spot hp⟩;obtain ⟨cs',g1,_⟩:=hx 0 (by omega);have:=World.cells?_block g1 (by omega);simpa [Addr.add] using this
   · rintro x e i hi;cases e;simp at hi;obtain ⟨_,g0,g1,g2,g3,g4⟩:=hf i (by omega);rw [plain (by omega)] at g0 g1 g2 g3 g4;simp only [List.getElem_map,List.getElem_range];exact ⟨g0,by simpa [Nat.add_assoc] using g1,by simpa [Nat.add_assoc] using g2,by simpa [Nat.add_assoc] using g3,by simpa [Nat.add_assoc] using g4⟩
theorem ua (s t:ByteArray) (q d n:Int) (w:World) :
 Calls Tryz.prog 28 #[.agg #[.string s,iT q,iT d,.string t,iT n],.agg #[.string s,iT q,iT d,.string t,iT n]] w fun e w'=>e=.returned (.bool true)∧Bl w w':=by
 go_enter Tryz.func28,Tryz.ntmps28
 go_wp2;go_ret;exact ⟨rfl,bZ.alloc (by simp) _⟩
theorem Tryz.infoEnt:(Tryz.prog.info? 59).map (fun i=>(i.zero,i.size,i.bytes))=some (some (.agg #[.string ByteArray.empty,iT 0,iT 0,.string ByteArray.empty,iT 0]),5,56):=by kernel_rfl
def fx (xs:List Value) (j:Nat) (l:ae):Prop:=xs[j*5]?=some (.string l.1)∧xs[j*5+1]?=some (iT l.2.1)∧xs[j*5+2]?=some (iT l.2.2.1)∧xs[j*5+3]?=some (.string l.2.2.2.1)∧xs[j*5+4]?=some (iT l.2.2.2.2)
theorem gO {j:Nat} {l:ae} (h:fx xs j l) (hne:j≠k) (u0 u1 u2 u3 u4:Value):fx (((((xs.set (k*5) u0).set (k*5+1) u1).set (k*5+2) u2).set (k*5+3) u3).set (k*5+4) u4) j l:=by
 obtain ⟨h0,h1,h2,h3,h4⟩:=h;refine ⟨?_,?_,?_,?_,?_⟩ <;> (repeat rw [List.getElem?_set_ne (by omega)]) <;> assumption
theorem iJ (s t:ByteArray) (q d n:Int) (h:k*5+4<xs.length):fx (((((xs.set (k*5) (.string s)).set (k*5+1) (iT q)).set (k*5+2) (iT d)).set (k*5+3) (.string t)).set (k*5+4) (iT n)) k (s,q,d,t,n):=by
 refine ⟨?_,?_,?_,?_,?_⟩
 · rw [List.getElem?_set_ne (by omega),List.getElem?_set_ne (by omega),List.getElem?_set_ne (by omega),List.getElem?_set_ne (by omega),List.getElem?_set_self (by omega)]
 · rw [List.getElem?_set_ne (by omega),List.getElem?_set_ne (by omega),List.getElem?_set_ne (by omega),List.getElem?_set_self (by simp;omega)]
 · rw [List.getElem?_set_ne (by omega),List.getElem?_set_ne (by omega),List.getElem?_set_self (by simp;omega)]
 · rw [List.getElem?_set_ne (by omega),List.getElem?_set_self (by simp;omega)]
 · rw [List.getElem?_set_self (by simp;omega)]
theorem og {g n:Nat} (h:w.ownsRow base 59 5 (sL g n cap) n xs) (hn:L.length=n) (hw:∀l ∈ L,dt l)
 (hh:∀j l,L[j]?=some l→fx xs j l):an w (pT g) n cap L:=by
 have hlt:=(h.lt g rfl).2;have hrc:n≤cap∧cap≤maxLen:=by
  rcases h.2 with ⟨h',_⟩ | ⟨g',cap',cur,h',_,_,hnc,hcm,_,_⟩
  · simp at h'
  · simp only [Value.slice.injEq,Option.some.injEq,Addr.mk.injEq,and_true,true_and] at h';obtain ⟨rfl,rfl⟩:=h';exact ⟨hnc,hcm⟩
 refine ⟨hn,hrc.1,hrc.2,hw,(fun e=>by cases e),?_,?_⟩
 · rintro x e _;cases e;exact ⟨hlt,rfl⟩
 · rintro x e i hi;cases e;obtain ⟨r0,r1,r2,r3,r4⟩:=hh i L[i] (List.getElem?_eq_getElem hi);rw [hn] at hi;simp only [Nat.zero_add];exact ⟨(h.cellAt _ (by omega)).trans r0,(h.cellAt _ (by omega)).trans r1,(h.cellAt _ (by omega)).trans r2,(h.cellAt _ (by omega)).trans r3,(h.cellAt _ (by omega)).trans r4⟩
theorem lV (b1 o1 b2 o2 len cap1 cap2:Nat) (L:List ae) (w:World) (h1:an w (some ⟨b1,o1,none⟩) len cap1 L) (h2:an w (some ⟨b2,o2,none⟩) len cap2 L) :
 Calls Tryz.prog 11 #[sO b1 o1 len cap1,sO b2 o2 len cap2] w fun e w'=>e=.returned (.bool true)∧Bl w w':=by
 have hbl:=h1.room;have hbc:=h1.big;unfold maxLen at hbc;have H1:=ar h1;have H2:=ar h2;clear h1 h2;go_enter Tryz.func11,Tryz.ntmps11
 go_wp2;go_loopw [5] (fun i wr=>∃k:Nat,k≤len∧i=iT k∧Bl w wr) (fun i _=>len - (intOf i).toNat)
 case atStart=>exact ⟨0,Nat.zero_le _,rfl,Below.refl _ _⟩
 case round =>
  obtain ⟨k,hk,rfl,hb⟩:=hrel;by_cases hlt:k<len
  · obtain ⟨s,q,d,t,n,hg,_,g0,g1,g2,g3,g4⟩:=H1.out.ent hb (H1.out.lies _ rfl (by omega)).1 k hlt;obtain ⟨s',q',d',t',n',hg',_,p0,p1,p2,p3,p4⟩:=H2.out.ent hb (H2.out.lies _ rfl (by omega)).1 k hlt;rw [hg] at hg';cases hg';clear hg;have hltI:(k:Int)<(len:Int):=by omega
    go_wp2_with fail
    go_region_with (go_at_call 28;refine (ua _ _ _ _ _ _).mono ?_;rintro e w1 ⟨rfl,hb1⟩)
    all_goals
     go_wp2;go_roundw
     case rel=>exact ⟨k+1,by omega,by go_num,hb.drew.trans (hb1.mono hb.size)⟩
     case measure=>simp [intOf];omega
  · go_wp2;go_ret;exact ⟨rfl,hb⟩
end Go.Proofs.YtehiefdphnljaaaGreatDoor
