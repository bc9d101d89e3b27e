/- Walks. -/
import Derived.WalkKit
import Derived.Lib.Bytealg
import Derived.Lib.Small
import Derived.Lib.Strings
import Derived.WalkSpells
import Derived.WalkLawsBesides
import Derived.Test.YtpobkmjicbobdaaGreatProg
import Derived.ProofKit
import Derived.Lib.SmallJoins
import Derived.Deep.Slices
import Derived.Deep.Strs
import Derived.Deep.SlicePairs
import Derived.OpenShut
namespace Go.Proofs.YtpobkmjicbobdaaGreat
set_option maxRecDepth 100000
set_option maxHeartbeats 40000000
open Go.ChangeShapes Go.Deep Go.Joins Go.RowKit Go.WideShapes
variable {w:World}
abbrev nZ:Value:=.slice none 0 0
abbrev sL (b n c:Nat):Value:=.slice (some ⟨b,0,none⟩) n c
abbrev sO (b o n c:Nat):Value:=.slice (some ⟨b,o,none⟩) n c
abbrev pT (b:Nat):Option Addr:=some ⟨b,0,none⟩
abbrev aD (b o:Nat):Addr:=⟨b,o,none⟩
abbrev iT (q:Int):Value:=.int .i64 q
abbrev Bl (w w':World):Prop:=Below w.heap.size w w'
theorem bZ {o:Obj}:Below w.heap.size w (w.alloc o):=(Below.refl _ _).alloc (Nat.le_refl _) _
theorem gG {B b:Nat} {a:World} (h:Below B a w) (hB:B≤b) (v0 v1 v2 v3:Value):Below B a ((((w.setCell ⟨b,0,none⟩ v0).setCell ⟨b,1,none⟩ v1).setCell ⟨b,2,none⟩ v2).setCell ⟨b,3,none⟩ v3):=(((h.setCell (p:=⟨b,0,none⟩) hB _).setCell (p:=⟨b,1,none⟩) hB _).setCell (p:=⟨b,2,none⟩) hB _).setCell (p:=⟨b,3,none⟩) hB _
theorem b6 {p:Prop} (h:p):Hid p:=h
theorem aS {α:Type} (a:α):∃x,x=a:=⟨a,rfl⟩
theorem mB (s:ByteArray) (k:Nat) (h:k<s.size):s.data.toList.take (k+1)=s.data.toList.take k++[s[k]]:=by
 rw [List.take_succ_eq_append_getElem (by simpa using h)];rfl
theorem af {a b:Bool} (h:a=b):Ending.returned (.bool a)=.returned (.bool b):=by rw [h]
theorem kV {k:IntKind} {a b:Int} (h:a=b):Ending.returned (.int k a)=.returned (.int k b):=by rw [h]
end Go.Proofs.YtpobkmjicbobdaaGreat
namespace Go.Proofs.YtpobkmjicbobdaaGreat
open Go.RowKit
def gH (b:UInt8):Bool:=(decide (97≤b.toNat) && decide (b.toNat≤122)) || (decide (47≤b.toNat) && decide (b.toNat≤57))
def fl (s:ByteArray):Bool:=decide (1≤s.size) && (decide (s.size≤8) && s.data.toList.all gH)
theorem qy {b:UInt8} (h:gH b=true):(97≤(b.toNat:Int)∧(b.toNat:Int)≤122)∨(47≤(b.toNat:Int)∧(b.toNat:Int)≤57):=by
 simp [gH] at h;omega
theorem oT {b:UInt8} (h:gH b=false):(b.toNat:Int)<47∨(57<(b.toNat:Int)∧(b.toNat:Int)<97)∨122<(b.toNat:Int):=by
 simp [gH] at h;by_cases h1:b.toNat<47
 · exact Or.inl (by omega)
 · by_cases h2:b.toNat<97
   · exact Or.inr (Or.inl (by omega))
   · exact Or.inr (Or.inr (by omega))
theorem gV (s:ByteArray) (k:Nat) (h:k<s.size) (ha:(s.data.toList.take k).all gH=true) (hb:gH s[k]=true):(s.data.toList.take (k+1)).all gH=true:=by
 rw [mB s k h,List.all_append,ha];simp [hb]
theorem fV (s:ByteArray) (k:Nat) (h:k<s.size) (hb:gH s[k]=false):fl s=false:=by
 have:s.data.toList.all gH=false:=by
  rw [Bool.eq_false_iff];intro hall;rw [List.all_eq_true] at hall;have hm:s[k] ∈ s.data.toList:=by
   have:s.data.toList[k]'(by simpa using h)=s[k]:=rfl;rw [← this];exact List.getElem_mem _
  rw [hall _ hm] at hb;cases hb
 unfold fl;rw [this];simp
theorem uM (s:ByteArray) (h:s.size<1):fl s=false:=by
 unfold fl;have:decide (1≤s.size)=false:=decide_eq_false (by omega);rw [this];rfl
theorem y7 (s:ByteArray) (h:8<s.size):fl s=false:=by
 unfold fl;have:decide (s.size≤8)=false:=decide_eq_false (by omega);rw [this];simp
theorem mM (s:ByteArray) (k:Nat) (hk:s.size≤k) (ha:(s.data.toList.take k).all gH=true):fl s=(decide (1≤s.size) && decide (s.size≤8)):=by
 unfold fl;rw [List.take_of_length_le (by simpa using hk)] at ha;simp [ha]
theorem ze (s:ByteArray) (h1:1≤s.size) (h8:s.size≤8) (k:Nat) (hk:s.size≤k) (ha:(s.data.toList.take k).all gH=true):fl s=true:=by
 rw [mM s k hk ha];simp [h1,h8]
theorem Aj (n:Nat) (h:1≤(n:Int)):decide ((n:Int)≤8)=(decide (1≤n) && decide (n≤8)):=by
 have h1:decide (1≤n)=true:=decide_eq_true (by omega);rw [h1,Bool.true_and,Bool.eq_iff_iff];simp;omega
theorem A4 (n:Nat) (h:(n:Int)<1):false=(decide (1≤n) && decide (n≤8)):=by
 have h1:decide (1≤n)=false:=decide_eq_false (by omega);rw [h1];rfl
abbrev ac:=ByteArray × Int × Int × ByteArray × Int
abbrev io:=Bool × ByteArray × Int
def fg (d:Int) (t:ByteArray) (n:Int):Bool :=
 if d=1 then true else if d=2 then decide (t.size=0) && decide (n=0) else if d=3 then decide (t.size=0) else false
def cX (k:ByteArray) (q d:Int) (t:ByteArray) (n:Int):Bool :=
 fl k && (decide (1≤q) && (decide (q≤100000) && (decide (-1000000≤n) && (decide (n≤1000000) && (decide (t.size≤60) && fg d t n)))))
theorem tz {k t:ByteArray} {q d n:Int} (h:fl k=false):cX k q d t n=false:=by simp [cX,h]
theorem vz {k t:ByteArray} {q d n:Int} (h:q<1):cX k q d t n=false:=by
 have:decide (1≤q)=false:=decide_eq_false (by omega);simp [cX,this]
theorem vy {k t:ByteArray} {q d n:Int} (h:100000<q):cX k q d t n=false:=by
 have:decide (q≤100000)=false:=decide_eq_false (by omega);simp [cX,this]
theorem vB {k t:ByteArray} {q d n:Int} (h:n < -1000000):cX k q d t n=false:=by
 have:decide (-1000000≤n)=false:=decide_eq_false (by omega);simp [cX,this]
theorem vA {k t:ByteArray} {q d n:Int} (h:1000000<n):cX k q d t n=false:=by
 have:decide (n≤1000000)=false:=decide_eq_false (by omega);simp [cX,this]
theorem zG {k t:ByteArray} {q d n:Int} (h:60<t.size):cX k q d t n=false:=by
 have:decide (t.size≤60)=false:=decide_eq_false (by omega);simp [cX,this]
theorem d9 {k t:ByteArray} {q d n:Int} (h:fl k=true) (h1:1≤q) (h2:q≤100000) (h3:-1000000≤n) (h4:n≤1000000) (h5:t.size≤60):cX k q d t n=fg d t n:=by
 simp [cX,h,h1,h2,h3,h4,h5]
theorem fe {t:ByteArray} (h:t≠ByteArray.empty):t.size≠0:=by
 intro h0;apply h;apply ByteArray.ext;exact Array.eq_empty_of_size_eq_zero h0
theorem jo {t:ByteArray} (h:t≠ByteArray.empty):¬t.toList=[]:=by
 intro h0;apply h;rw [ByteArray.toList_eq] at h0;apply ByteArray.ext;exact Array.toList_eq_nil_iff.1 h0
theorem nf {t:ByteArray} {n:Int}:fg 1 t n=true:=by simp [fg]
theorem gQ {t:ByteArray} {n:Int}:fg 2 t n=(decide (t.size=0) && decide (n=0)):=by simp [fg]
theorem lm {t:ByteArray} {n:Int}:fg 3 t n=decide (t.size=0):=by simp [fg]
theorem ng {d:Int} {t:ByteArray} {n:Int} (h1:d≠1) (h2:d≠2) (h3:d≠3):fg d t n=false:=by simp [fg,h1,h2,h3]
end Go.Proofs.YtpobkmjicbobdaaGreat
namespace Go.Proofs.YtpobkmjicbobdaaGreat
open Go.RowKit
theorem il:∀(a b:List UInt8),(Lib.compareBytes a b=-1∧Op.bytesLess a b=true∧a≠b)∨(Lib.compareBytes a b=0∧Op.bytesLess a b=false∧a=b)∨(Lib.compareBytes a b=1∧Op.bytesLess a b=false∧a≠b)
 | [],[]=>Or.inr (Or.inl ⟨rfl,rfl,rfl⟩)
 | [],_ :: _=>Or.inl ⟨rfl,rfl,by simp⟩
 | _ :: _,[]=>Or.inr (Or.inr ⟨rfl,rfl,by simp⟩)
 | x :: a,y :: b=>by
  have ih:=il a b
  unfold Lib.compareBytes Op.bytesLess
  by_cases h1:x<y
  · have hne:x≠y:=fun e=>UInt8.lt_irrefl y (e ▸ h1)
    exact Or.inl ⟨by simp [h1],by simp [h1],fun e=>hne (by simpa using (List.cons.inj e).1)⟩
  · by_cases h2:y<x
    · have hne:x≠y:=fun e=>UInt8.lt_irrefl y (e ▸ h2)
      exact Or.inr (Or.inr ⟨by simp [h1,h2],by simp [h1,hne],fun e=>hne (by simpa using (List.cons.inj e).1)⟩)
    · have he:x=y:=UInt8.le_antisymm (UInt8.not_lt.1 h2) (UInt8.not_lt.1 h1)
      subst he
      rcases ih with ⟨p,q,r⟩ | ⟨p,q,r⟩ | ⟨p,q,r⟩
      · exact Or.inl ⟨by simp [h1,p],by simp [q],by simpa using r⟩
      · exact Or.inr (Or.inl ⟨by simp [h1,p],by simp [h1,q],by simpa using r⟩)
      · exact Or.inr (Or.inr ⟨by simp [h1,p],by simp [h1,q],by simpa using r⟩)
def b7 (ka:ByteArray) (qa:Int) (kb:ByteArray) (qb:Int):Bool :=
 Op.bytesLess ka.data.toList kb.data.toList || (decide (ka=kb) && decide (qb<qa))
end Go.Proofs.YtpobkmjicbobdaaGreat
namespace Go.Proofs.YtpobkmjicbobdaaGreat
open Go.RowKit
theorem dG:∀a:List UInt8,Op.bytesLess a a=false
 | []=>rfl
 | x :: a=>by
  unfold Op.bytesLess
  have:=dG a
  simp [this]
theorem fI:∀a b:List UInt8,Op.bytesLess a b=true→Op.bytesLess b a=false
 | [],[],h=>by simp [Op.bytesLess] at h
 | [],_ :: _,_=>rfl
 | _ :: _,[],h=>by simp [Op.bytesLess] at h
 | x :: a,y :: b,h=>by
  unfold Op.bytesLess at h ⊢
  have ih:=fI a b
  simp only [Bool.or_eq_true,decide_eq_true_eq,Bool.and_eq_true,beq_iff_eq] at h
  rcases h with h | ⟨rfl,h⟩
  · have h1:¬y<x:=fun g=>UInt8.lt_asymm h g
    have h2:¬y=x:=fun g=>UInt8.lt_irrefl x (by rw [g] at h;exact h)
    simp [h1,h2]
  · simp [ih h]
theorem jg:∀a b:List UInt8,a≠b→Op.bytesLess a b=true∨Op.bytesLess b a=true
 | [],[],h=>absurd rfl h
 | [],_ :: _,_=>Or.inl rfl
 | _ :: _,[],_=>Or.inr rfl
 | x :: a,y :: b,h=>by
  unfold Op.bytesLess
  by_cases h1:x<y
  · left;simp [h1]
  · by_cases h2:y<x
    · right;simp [h2]
    · have he:x=y:=UInt8.le_antisymm (UInt8.not_lt.1 h2) (UInt8.not_lt.1 h1)
      subst he
      have ih:=jg a b (fun e=>h (by rw [e]))
      rcases ih with ih | ih
      · left;simp [ih]
      · right;simp [ih]
theorem cq:∀a b c:List UInt8,Op.bytesLess a b=true→Op.bytesLess b c=true→Op.bytesLess a c=true
 | _,_,[],_,h=>by simp [Op.bytesLess] at h
 | [],_,_ :: _,_,_=>rfl
 | _ :: _,[],_ :: _,h,_=>by simp [Op.bytesLess] at h
 | x :: a,y :: b,z :: c,h,k=>by
  unfold Op.bytesLess at h k ⊢
  simp only [Bool.or_eq_true,decide_eq_true_eq,Bool.and_eq_true,beq_iff_eq] at h k ⊢
  rcases h with h | ⟨rfl,h⟩
  · rcases k with k | ⟨rfl,k⟩
    · exact Or.inl (UInt8.lt_trans h k)
    · exact Or.inl h
  · rcases k with k | ⟨rfl,k⟩
    · exact Or.inl k
    · exact Or.inr ⟨rfl,cq a b c h k⟩
theorem gq (k:ByteArray) (q:Int):b7 k q k q=false:=by
 unfold b7;simp [dG]
theorem eU {ka kb:ByteArray} {qa qb:Int} (h:b7 ka qa kb qb=true):Op.bytesLess ka.data.toList kb.data.toList=true∨(ka=kb∧qb<qa):=by
 unfold b7 at h;simpa using h
theorem th {ka kb:ByteArray} {qa qb:Int} (h:b7 ka qa kb qb=true):b7 kb qb ka qa=false:=by
 rcases eU h with h | ⟨rfl,h⟩
 · have h1:=fI _ _ h;have h2:¬kb=ka:=fun e=>by rw [e,dG] at h;cases h
   unfold b7;simp [h1,h2]
 · unfold b7;have:¬qa<qb:=by omega
   simp [dG,this]
theorem gN {ka kb kc:ByteArray} {qa qb qc:Int} (h:b7 ka qa kb qb=true) (k:b7 kb qb kc qc=true):b7 ka qa kc qc=true:=by
 unfold b7;rcases eU h with h | ⟨rfl,h⟩
 · rcases eU k with k | ⟨rfl,k⟩
   · simp [cq _ _ _ h k]
   · simp [h]
 · rcases eU k with k | ⟨rfl,k⟩
   · simp [k]
   · have:qc<qa:=by omega
     simp [this]
theorem qw (ka kb:ByteArray) (qa qb:Int):(b7 ka qa kb qb || b7 kb qb ka qa)=(decide (¬ka=kb) || decide (¬qa=qb)):=by
 by_cases he:ka=kb
 · subst he;unfold b7;rw [dG];by_cases h1:qb<qa
   · have:¬qa=qb:=by omega
     simp [h1,this]
   · by_cases h2:qa<qb
     · have:¬qa=qb:=by omega
       simp [h2,this]
     · have:qa=qb:=by omega
       simp [this]
 · have hne:ka.data.toList≠kb.data.toList:=fun e=>he (ByteArray.ext (Array.toList_inj.1 e))
   unfold b7;rcases jg _ _ hne with h | h <;> simp [h,he]
end Go.Proofs.YtpobkmjicbobdaaGreat
namespace Go.Proofs.YtpobkmjicbobdaaGreat
open Go.RowKit
def AR (h:Nat) (b:UInt8):Nat:=(31*h+b.toNat) % 65521
def iR (l:List UInt8):Nat:=l.foldl AR 7
def vp (h:Nat):Nat:=2 ^ (h % 16) ||| 2 ^ (h / 16 % 16)
def gM (s:ByteArray):Nat:=vp (iR s.data.toList)
theorem qI (s:ByteArray) (k:Nat) (h:k<s.size):iR (s.data.toList.take (k+1))=AR (iR (s.data.toList.take k)) s[k]:=by
 rw [mB s k h];simp [iR]
theorem fp {a:Nat} (h:a<16):2 ^ a<65536:=by
 have:2 ^ a<2 ^ 16:=Nat.pow_lt_pow_right (by omega) h;exact this
theorem ic {a b:Nat} (ha:a<65536) (hb:b<65536):a ||| b<65536:=Nat.or_lt_two_pow (n:=16) ha hb
theorem yU (h:Nat):vp h<65536:=ic (fp (Nat.mod_lt _ (by omega))) (fp (Nat.mod_lt _ (by omega)))
theorem oD (s:ByteArray):gM s<65536:=yU _
theorem Ao (a b i:Nat):(a ||| b) / 2 ^ i=(a ||| b) / 2 ^ (i+1)*2+(if a / 2 ^ i % 2=1∨b / 2 ^ i % 2=1 then 1 else 0):=by
 have h1:(a ||| b).testBit i=(a.testBit i || b.testBit i):=Nat.testBit_or ..;rw [Nat.testBit_eq_decide_div_mod_eq,Nat.testBit_eq_decide_div_mod_eq,Nat.testBit_eq_decide_div_mod_eq] at h1;have h2:(a ||| b) / 2 ^ (i+1)=(a ||| b) / 2 ^ i / 2:=by rw [Nat.pow_succ,Nat.div_div_eq_div_mul]
 rw [h2];by_cases h3:a / 2 ^ i % 2=1∨b / 2 ^ i % 2=1
 · rw [if_pos h3];have:(a ||| b) / 2 ^ i % 2=1:=by
    have:decide ((a ||| b) / 2 ^ i % 2=1)=true:=by rw [h1];simpa using h3
    exact of_decide_eq_true this
   omega
 · rw [if_neg h3];have:¬(a ||| b) / 2 ^ i % 2=1:=by
    have:decide ((a ||| b) / 2 ^ i % 2=1)=false:=by
     rw [h1];have h4:¬a / 2 ^ i % 2=1:=fun e=>h3 (Or.inl e)
     have h5:¬b / 2 ^ i % 2=1:=fun e=>h3 (Or.inr e)
     simp [h4,h5]
    exact of_decide_eq_false this
   omega
def cZ (L:List ac):Nat:=L.foldl (fun m e=>m ||| gM e.1) 0
theorem oC {L:List ac} {k:Nat} {e:ac} (h:L[k]?=some e):cZ (L.take (k+1))=cZ (L.take k) ||| gM e.1:=by
 rw [List.take_add_one,h];simp [cZ]
theorem lj (L:List ac):cZ L<65536:=by
 have:∀(L:List ac) (m:Nat),m<65536→L.foldl (fun m e=>m ||| gM e.1) m<65536:=by
  intro L;induction L with
  | nil=>intro m h;exact h
  | cons a r ih=>intro m h;exact ih _ (ic h (oD _))
 exact this L 0 (by omega)
def jU (L:List ac) (j:Nat):Bool :=
 match L[j]? with
 | none=>true
 | some e=>cX e.1 e.2.1 e.2.2.1 e.2.2.2.1 e.2.2.2.2 && (match j with | 0=>true | i+1=>match L[i]? with | none=>true | some d=>b7 d.1 d.2.1 e.1 e.2.1)
def aR (L:List ac):Bool:=(List.range L.length).all (jU L)
def iN (L:List ac) (k:Nat):Prop:=∀j,j<k→jU L j=true
theorem kT {L:List ac} {k:Nat} (h:iN L k) (hk:L.length≤k):aR L=true:=by
 unfold aR;rw [List.all_eq_true];intro j hj;exact h j (by have:=List.mem_range.1 hj;omega)
theorem kU {L:List ac} {k:Nat} (hk:k<L.length) (h:jU L k=false):aR L=false:=by
 rw [Bool.eq_false_iff];intro h1;unfold aR at h1;rw [List.all_eq_true] at h1;rw [h1 k (List.mem_range.2 hk)] at h;cases h
theorem iy {L:List ac} {k:Nat} (h:iN L k) (hk:jU L k=true):iN L (k+1):=by
 intro j hj;by_cases e:j=k
 · rw [e];exact hk
 · exact h j (by omega)
theorem jx {L:List ac} {e:ac} (h:L[0]?=some e):jU L 0=cX e.1 e.2.1 e.2.2.1 e.2.2.2.1 e.2.2.2.2:=by
 unfold jU;rw [h];simp
theorem ie {L:List ac} {i:Nat} {d e:ac} (h:L[i+1]?=some e) (g:L[i]?=some d):jU L (i+1)=(cX e.1 e.2.1 e.2.2.1 e.2.2.2.1 e.2.2.2.2 && b7 d.1 d.2.1 e.1 e.2.1):=by
 unfold jU;simp only [h,g]
theorem ow {L:List ac} {k:Nat} {e:ac} (h:L[k]?=some e) (g:cX e.1 e.2.1 e.2.2.1 e.2.2.2.1 e.2.2.2.2=false):jU L k=false:=by
 unfold jU;rw [h];simp [g]
def dv (L:List ac) (m:Int):Bool:=decide (1≤L.length) && (decide (L.length≤150) && (aR L && decide (m=cZ L)))
theorem sM {L:List ac} {m:Int} (h:L.length<1):dv L m=false:=by
 have:decide (1≤L.length)=false:=decide_eq_false (by omega);simp [dv,this]
theorem qo {L:List ac} {m:Int} (h:150<L.length):dv L m=false:=by
 have:decide (L.length≤150)=false:=decide_eq_false (by omega);simp [dv,this]
theorem og {L:List ac} {m:Int} (h:aR L=false):dv L m=false:=by simp [dv,h]
theorem qn {L:List ac} {m:Int} (h1:1≤L.length) (h2:L.length≤150) (h3:aR L=true):dv L m=decide (m=cZ L):=by
 simp [dv,h1,h2,h3]
end Go.Proofs.YtpobkmjicbobdaaGreat
namespace Go.Proofs.YtpobkmjicbobdaaGreat
open Go.RowKit
theorem sR {L:List ac} (h:aR L=true) (j:Nat) (hj:j<L.length):jU L j=true:=by
 unfold aR at h;rw [List.all_eq_true] at h;exact h j (List.mem_range.2 hj)
theorem fX {L:List ac} (h:aR L=true) {j:Nat} {e:ac} (hj:L[j]?=some e):cX e.1 e.2.1 e.2.2.1 e.2.2.2.1 e.2.2.2.2=true:=by
 have h1:=sR h j (List.getElem?_eq_some_iff.1 hj).1;cases g:cX e.1 e.2.1 e.2.2.1 e.2.2.2.1 e.2.2.2.2 with
 | true=>rfl
 | false=>rw [ow hj g] at h1;cases h1
theorem uq {L:List ac} (h:aR L=true) {j:Nat} {d e:ac} (hd:L[j]?=some d) (he:L[j+1]?=some e):b7 d.1 d.2.1 e.1 e.2.1=true:=by
 have h1:=sR h (j+1) (List.getElem?_eq_some_iff.1 he).1;rw [ie he hd] at h1;simp at h1;exact h1.2
theorem f8 {L:List ac} (h:aR L=true) {i j:Nat} (hij:i<j) {d e:ac} (hd:L[i]?=some d) (he:L[j]?=some e):b7 d.1 d.2.1 e.1 e.2.1=true:=by
 induction j generalizing e with
 | zero=>omega
 | succ j ih =>
  have hj:j<L.length:=by have:=(List.getElem?_eq_some_iff.1 he).1;omega
  have hg:L[j]?=some L[j]:=List.getElem?_eq_getElem hj;have hn:=uq h hg he;by_cases e1:i=j
  · subst e1;rw [hg] at hd;cases hd;exact hn
  · exact gN (ih (by omega) hg) hn
theorem tx {k t:ByteArray} {q d n:Int} (h:cX k q d t n=true):1≤q∧q≤100000:=by
 simp [cX] at h;exact ⟨h.2.1,h.2.2.1⟩
theorem bK {L:List ac} {m:Int} (h:dv L m=true):1≤L.length∧L.length≤150∧aR L=true∧m=cZ L:=by
 simpa [dv] using h
end Go.Proofs.YtpobkmjicbobdaaGreat
namespace Go.Proofs.YtpobkmjicbobdaaGreat
set_option maxRecDepth 100000
set_option maxHeartbeats 40000000
open Go.ChangeShapes Go.Deep Go.Joins Go.RowKit Go.WideShapes
variable {L M:List ac} {S:List Int} {W w w' wr:World} {ak am av:Option Addr} {b cap cm cs cv len lo lo' nm ns nv off:Nat}
theorem vH {w1:World} (hb:Bl W w1):(∀b o,b<W.heap.size→w1.cell? ⟨b,o,none⟩=W.cell? ⟨b,o,none⟩)∧(∀b o,b<W.heap.size→w1.frozen? ⟨b,o,none⟩=W.frozen? ⟨b,o,none⟩) :=
 ⟨fun b o h=>hb.cell (p:=⟨b,o,none⟩) h,fun b o h=>hb.frozen (p:=⟨b,o,none⟩) h⟩
def ec (e:ac):Prop:=e.1.size≤maxLen∧(Lit.int .i64 e.2.1).wf=true∧(Lit.int .i64 e.2.2.1).wf=true∧e.2.2.2.1.size≤maxLen∧(Lit.int .i64 e.2.2.2.2).wf=true
def lK (w:World) (b o:Nat) (e:ac):Prop:=w.cell? ⟨b,o,none⟩=some (.string e.1)∧w.cell? ⟨b,o+1,none⟩=some (iT e.2.1)∧w.cell? ⟨b,o+2,none⟩=some (iT e.2.2.1)∧w.cell? ⟨b,o+3,none⟩=some (.string e.2.2.2.1)∧w.cell? ⟨b,o+4,none⟩=some (iT e.2.2.2.2)
theorem lK.moved {o:Nat} {e:ac} (h:lK w b o e) (hc:∀o,w'.cell? ⟨b,o,none⟩=w.cell? ⟨b,o,none⟩):lK w' b o e :=
 ⟨(hc _).trans h.1,(hc _).trans h.2.1,(hc _).trans h.2.2.1,(hc _).trans h.2.2.2.1,(hc _).trans h.2.2.2.2⟩
structure aj (w:World) (a:Option Addr) (len cap:Nat) (L:List ac):Prop where
 length:L.length=len
 room:len≤cap
 big:cap≤maxLen
 ents:∀e ∈ L,ec e
 nil:a=none→len=0
 lies:∀x,a=some x→0<len→x.block<w.heap.size∧x.spot=none
 cells:∀x,a=some x→∀i (h:i<L.length),lK w x.block (x.off+i*5) L[i]
theorem aj.moved {a:Option Addr} (h:aj w a len cap L) (hs:w.heap.size≤w'.heap.size) (hc:∀x,a=some x→0<len→∀o,w'.cell? ⟨x.block,o,none⟩=w.cell? ⟨x.block,o,none⟩):aj w' a len cap L where
 length:=h.length
 room:=h.room
 big:=h.big
 ents:=h.ents
 nil:=h.nil
 lies:=fun x e hp=>⟨Nat.lt_of_lt_of_le (h.lies x e hp).1 hs,(h.lies x e hp).2⟩
 cells:=fun x e i hi=>(h.cells x e i hi).moved (hc x e (by have:=h.length;omega))
theorem aj.below {B:Nat} {a:Option Addr} (h:aj w a len cap L) (hb:Below B w w') (hB:∀x,a=some x→0<len→x.block<B):aj w' a len cap L :=
 h.moved hb.size (fun x e hp o=>hb.cell (p:=⟨x.block,o,none⟩) (hB x e hp))
theorem aj.keep {a:Option Addr} (h:aj w a len cap L) (hb:Bl w w'):aj w' a len cap L:=h.below hb (fun x e hp=>(h.lies x e hp).1)
theorem aj.setCell {a:Option Addr} (h:aj w a len cap L) (p:Addr) (u:Value) (hp:∀x,a=some x→0<len→x.block≠p.block):aj (w.setCell p u) a len cap L :=
 h.moved (by simp [World.setCell]) (fun x e hl o=>World.cell?_of_block (by rw [Below.heap_setCell _ _ _ _ (hp x e hl)]))
theorem aj.ent {B:Nat} (h:aj w (some ⟨b,off,none⟩) len cap L) (hb:Below B w wr) (hB:b<B) (k:Nat) (hk:k<len) :
 ∃s q d t n,L[k]?=some (s,q,d,t,n)∧ec (s,q,d,t,n)∧wr.cell? ⟨b,off+k*5,none⟩=some (.string s)∧wr.cell? ⟨b,off+k*5+1,none⟩=some (iT q)∧wr.cell? ⟨b,off+k*5+2,none⟩=some (iT d)∧wr.cell? ⟨b,off+k*5+3,none⟩=some (.string t)∧wr.cell? ⟨b,off+k*5+4,none⟩=some (iT n):=by
 have hk':k<L.length:=by rw [h.length];exact hk
 obtain ⟨c0,c1,c2,c3,c4⟩:=(h.cells _ rfl k hk').moved (fun o=>hb.cell (p:=⟨b,o,none⟩) hB);exact ⟨L[k].1,L[k].2.1,L[k].2.2.1,L[k].2.2.2.1,L[k].2.2.2.2,List.getElem?_eq_getElem hk',h.ents _ (List.getElem_mem hk'),c0,c1,c2,c3,c4⟩
theorem aj.form {a:Option Addr} (h:aj w a len cap L) (hl:1≤len):∃b off,a=some ⟨b,off,none⟩∧b<w.heap.size:=by
 cases a with
 | none=>have:=h.nil rfl;omega
 | some x =>
  obtain ⟨b,off,spot⟩:=x;obtain ⟨h1,h2⟩:=h.lies _ rfl (by omega);simp only at h1 h2;subst h2;exact ⟨b,off,rfl,h1⟩
theorem Tryz.infoInt:(Tryz.prog.info? 3).map (fun i=>(i.zero,i.size,i.bytes))=some (some (iT 0),1,8):=by kernel_rfl
def dJ (lo:Nat) (w w':World):Prop:=w.heap.size≤w'.heap.size∧∀b o,lo≤b→b<w.heap.size→w'.cell? ⟨b,o,none⟩=w.cell? ⟨b,o,none⟩
theorem dJ.of_below (hb:Bl w w'):dJ lo w w':=⟨hb.size,fun b o _ h=>hb.cell (p:=⟨b,o,none⟩) h⟩
theorem dJ.of_set (p:Addr) (u:Value) (h:p.block<lo):dJ lo w (w.setCell p u) :=
 ⟨by simp [World.setCell],fun b o hb _=>World.cell?_of_block (by rw [Below.heap_setCell _ _ _ _ (by simp only;omega)])⟩
theorem dJ.trans {w'':World} (h:dJ lo w w') (h':dJ lo w' w''):dJ lo w w'' :=
 ⟨Nat.le_trans h.1 h'.1,fun b o hb hl=>(h'.2 b o hb (Nat.lt_of_lt_of_le hl h.1)).trans (h.2 b o hb hl)⟩
structure bG (lo:Nat) (w:World) (a:Option Addr) (len cap:Nat) (S:List Int):Prop where
 length:S.length=len
 room:len≤cap
 big:cap≤maxLen
 wfs:∀q ∈ S,(Lit.int .i64 q).wf=true
 nil:a=none→len=0
 lies:∀x,a=some x→0<len→x.block<w.heap.size∧x.spot=none∧lo≤x.block
 cells:∀x,a=some x→∀i (h:i<S.length),w.cell? ⟨x.block,x.off+i,none⟩=some (iT S[i])
theorem bG.same {a:Option Addr} (h:bG lo w a len cap S) (hs:dJ lo w w'):bG lo w' a len cap S where
 length:=h.length
 room:=h.room
 big:=h.big
 wfs:=h.wfs
 nil:=h.nil
 lies:=fun x e hp=>⟨Nat.lt_of_lt_of_le (h.lies x e hp).1 hs.1,(h.lies x e hp).2⟩
 cells:=fun x e i hi=>by
  obtain ⟨hx,_,hlo⟩:=h.lies x e (by have:=h.length;omega)
  exact (hs.2 _ _ hlo hx).trans (h.cells x e i hi)
theorem bG.keep {a:Option Addr} (h:bG lo w a len cap S) (hb:Bl w w'):bG lo w' a len cap S:=h.same (dJ.of_below hb)
theorem bG.lower {a:Option Addr} (h:bG lo w a len cap S) (hl:lo'≤lo):bG lo' w a len cap S :=
 ⟨h.length,h.room,h.big,h.wfs,h.nil,fun x e hp=>⟨(h.lies x e hp).1,(h.lies x e hp).2.1,Nat.le_trans hl (h.lies x e hp).2.2⟩,h.cells⟩
theorem bG.form {a:Option Addr} (h:bG lo w a len cap S) (hl:1≤len):∃b off,a=some ⟨b,off,none⟩∧b<w.heap.size:=by
 cases a with
 | none=>have:=h.nil rfl;omega
 | some x =>
  obtain ⟨b,off,spot⟩:=x;obtain ⟨h1,h2,_⟩:=h.lies _ rfl (by omega);simp only at h1 h2;subst h2;exact ⟨b,off,rfl,h1⟩
theorem bG.num (h:bG lo w (some ⟨b,off,none⟩) len cap S) (hb:Bl w wr) (k:Nat) (hk:k<len) :
 ∃q,S[k]?=some q∧(Lit.int .i64 q).wf=true∧wr.cell? ⟨b,off+k,none⟩=some (iT q):=by
 have hk':k<S.length:=by rw [h.length];exact hk
 exact ⟨S[k],List.getElem?_eq_getElem hk',h.wfs _ (List.getElem_mem hk'),(h.keep hb).cells _ rfl k hk'⟩
theorem yP {a:Addr} (h:a.spot=none) (j:Nat):a.add j=⟨a.block,a.off+j,none⟩:=by
 obtain ⟨b,o,sp⟩:=a;simp only at h;subst h;exact add_plain _ _ _
theorem open_ints {H:Type} {enc:TypeId × Value→H} {base n0:Nat} {v:Value} {x:DataW H × List MemPlace} {held:Bool}
 (hf:DataW.trod enc Tryz.prog W base (fun _=>true) held n0 24 [v]=some x) :
 ∃(a:Option Addr) (len cap:Nat) (S:List Int),v=.slice a len cap∧bG 0 W a len cap S:=by
 have r5:Tryz.prog.cellsOf 3=1:=by kernel_rfl
 rcases Deep.open_slice Tryz.underlying24 hf with ⟨hcs,_⟩ | ⟨a,len,cap,mm,n,D,Pl,hcs,hb,hl,hm,hmm,_,hx⟩
 · simp at hcs;subst hcs;exact ⟨none,0,0,[],rfl,⟨rfl,Nat.le_refl _,Nat.zero_le _,by simp,fun _=>rfl,(fun x e=>by cases e),(fun x e=>by cases e)⟩⟩
 · simp at hcs;subst hcs;simp at hmm;rw [r5] at hx;have each:∀i,i<mm→∃q:Int,(Lit.int .i64 q).wf=true∧W.cell? (a.add i)=some (iT q):=by
    intro i hi;obtain ⟨cs',g1,g2⟩:=hx i hi;obtain ⟨_,hlen,hcell⟩:=World.cells?_some g1;match cs',hlen with
    | [u0],_ =>
     have k0:=hcell 0 (by omega);rw [Deep.add_add] at k0;obtain ⟨q,e0,_,wq⟩:=DataW.trod_int Tryz.underlying3 g2;simp at e0;subst e0;exact ⟨q,wq,by simpa using k0⟩
   obtain ⟨f,hf'⟩:=Deep.choose_lt each;have spot:0<len→a.spot=none:=fun hp=>by
    obtain ⟨_,c0⟩:=hf' 0 (by omega);simpa [Addr.add] using World.cell?_spot c0
   refine ⟨some a,len,cap,(List.range len).map f,rfl,⟨by simp,hl,hm,?_,(fun e=>by cases e),?_,?_⟩⟩
   · intro q hq;obtain ⟨i,hi,rfl⟩:=List.mem_map.1 hq;exact (hf' i (by have:=List.mem_range.1 hi;omega)).1
   · rintro x e hp;cases e;refine ⟨?_,spot hp,Nat.zero_le _⟩;obtain ⟨_,c0⟩:=hf' 0 (by omega);have:=World.block_lt_of_cell? _ _ c0;simpa [Addr.add] using this
   · rintro x e i hi;cases e;simp at hi;obtain ⟨_,g0⟩:=hf' i (by omega);rw [yP (spot (by omega))] at g0;simp only [List.getElem_map,List.getElem_range];exact g0
abbrev ag:=List ac × Int
def eu (lo:Nat) (w:World) (a:Option Addr) (len cap:Nat) (L:List ac):Prop:=aj w a len cap L∧∀x,a=some x→0<len→lo≤x.block
theorem eu.same {a:Option Addr} (h:eu lo w a len cap L) (hs:dJ lo w w'):eu lo w' a len cap L :=
 ⟨h.1.moved hs.1 (fun x e hp _=>hs.2 _ _ (h.2 x e hp) (h.1.lies x e hp).1),h.2⟩
theorem eu.mono {a:Option Addr} (h:eu lo w a len cap L) (hl:lo'≤lo):eu lo' w a len cap L:=⟨h.1,fun x e hp=>Nat.le_trans hl (h.2 x e hp)⟩
structure az (lo:Nat) (w:World) (a:Option Addr) (len cap:Nat) (B:List ag):Prop where
 length:B.length=len
 room:len≤cap
 big:cap≤maxLen
 nil:a=none→len=0
 lies:∀x,a=some x→0<len→x.block<w.heap.size∧x.spot=none∧lo≤x.block
 runs:∀x,a=some x→∀i (h:i<B.length),(Lit.int .i64 B[i].2).wf=true∧∃s n c,w.cell? ⟨x.block,x.off+i*2,none⟩=some (.slice s n c)∧w.cell? ⟨x.block,x.off+i*2+1,none⟩=some (iT B[i].2)∧eu lo w s n c B[i].1
theorem az.same {a:Option Addr} {B:List ag} (h:az lo w a len cap B) (hs:dJ lo w w'):az lo w' a len cap B where
 length:=h.length
 room:=h.room
 big:=h.big
 nil:=h.nil
 lies:=fun x e hp=>⟨Nat.lt_of_lt_of_le (h.lies x e hp).1 hs.1,(h.lies x e hp).2⟩
 runs:=fun x e i hi=>by
  obtain ⟨hx,_,hlo⟩:=h.lies x e (by have:=h.length;omega)
  obtain ⟨hw,s,n,c,c0,c1,hL⟩:=h.runs x e i hi
  exact ⟨hw,s,n,c,(hs.2 _ _ hlo hx).trans c0,(hs.2 _ _ hlo hx).trans c1,hL.same hs⟩
theorem az.keep {a:Option Addr} {B:List ag} (h:az lo w a len cap B) (hb:Bl w w'):az lo w' a len cap B:=h.same (dJ.of_below hb)
theorem az.mono {a:Option Addr} {B:List ag} (h:az lo w a len cap B) (hl:lo'≤lo):az lo' w a len cap B :=
 ⟨h.length,h.room,h.big,h.nil,fun x e hp=>⟨(h.lies x e hp).1,(h.lies x e hp).2.1,Nat.le_trans hl (h.lies x e hp).2.2⟩,fun x e i hi=>by obtain ⟨hw,s,n,c,c0,c1,hL⟩:=h.runs x e i hi;exact ⟨hw,s,n,c,c0,c1,hL.mono hl⟩⟩
theorem az.form {a:Option Addr} {B:List ag} (h:az lo w a len cap B) (hl:1≤len):∃b off,a=some ⟨b,off,none⟩∧b<w.heap.size:=by
 cases a with
 | none=>have:=h.nil rfl;omega
 | some x =>
  obtain ⟨b,off,spot⟩:=x;obtain ⟨h1,h2,_⟩:=h.lies _ rfl (by omega);simp only at h1 h2;subst h2;exact ⟨b,off,rfl,h1⟩
theorem az.run {B:List ag} (h:az lo w (some ⟨b,off,none⟩) len cap B) (hb:Bl w wr) (k:Nat) (hk:k<len) :
 ∃L m s n c,B[k]?=some (L,m)∧(Lit.int .i64 m).wf=true∧wr.cell? ⟨b,off+k*2,none⟩=some (.slice s n c)∧wr.cell? ⟨b,off+k*2+1,none⟩=some (iT m)∧eu lo wr s n c L:=by
 have hk':k<B.length:=by rw [h.length];exact hk
 obtain ⟨hw,s,n,c,c0,c1,hL⟩:=(h.keep hb).runs _ rfl k hk';exact ⟨B[k].1,B[k].2,s,n,c,List.getElem?_eq_getElem hk',hw,c0,c1,hL⟩
theorem az.wfs {a:Option Addr} {B:List ag} (h:az lo w a len cap B):∀p ∈ B,(Lit.int .i64 p.2).wf=true:=by
 intro p hp;obtain ⟨j,hj,rfl⟩:=List.getElem_of_mem hp;obtain ⟨b,off,rfl,_⟩:=h.form (by have:=h.length;omega);exact (h.runs _ rfl j hj).1
theorem uj (lo:Nat) (w:World):az lo w none 0 0 []:=⟨rfl,Nat.le_refl _,Nat.zero_le _,fun _=>rfl,(fun x e=>by cases e),(fun x e=>by cases e)⟩
structure bH (lo:Nat) (w:World) (a:Option Addr) (len cap:Nat) (V:List (List ag)):Prop where
 length:V.length=len
 room:len≤cap
 big:cap≤maxLen
 nil:a=none→len=0
 lies:∀x,a=some x→0<len→x.block<w.heap.size∧x.spot=none∧lo≤x.block
 levels:∀x,a=some x→∀i (h:i<V.length),∃s n c,w.cell? ⟨x.block,x.off+i,none⟩=some (.slice s n c)∧az lo w s n c V[i]
theorem bH.same {a:Option Addr} {V:List (List ag)} (h:bH lo w a len cap V) (hs:dJ lo w w'):bH lo w' a len cap V where
 length:=h.length
 room:=h.room
 big:=h.big
 nil:=h.nil
 lies:=fun x e hp=>⟨Nat.lt_of_lt_of_le (h.lies x e hp).1 hs.1,(h.lies x e hp).2⟩
 levels:=fun x e i hi=>by
  obtain ⟨hx,_,hlo⟩:=h.lies x e (by have:=h.length;omega)
  obtain ⟨s,n,c,c0,hL⟩:=h.levels x e i hi
  exact ⟨s,n,c,(hs.2 _ _ hlo hx).trans c0,hL.same hs⟩
theorem bH.keep {a:Option Addr} {V:List (List ag)} (h:bH lo w a len cap V) (hb:Bl w w'):bH lo w' a len cap V:=h.same (dJ.of_below hb)
theorem bH.mono {a:Option Addr} {V:List (List ag)} (h:bH lo w a len cap V) (hl:lo'≤lo):bH lo' w a len cap V :=
 ⟨h.length,h.room,h.big,h.nil,fun x e hp=>⟨(h.lies x e hp).1,(h.lies x e hp).2.1,Nat.le_trans hl (h.lies x e hp).2.2⟩,fun x e i hi=>by obtain ⟨s,n,c,c0,hL⟩:=h.levels x e i hi;exact ⟨s,n,c,c0,hL.mono hl⟩⟩
theorem bH.form {a:Option Addr} {V:List (List ag)} (h:bH lo w a len cap V) (hl:1≤len):∃b off,a=some ⟨b,off,none⟩∧b<w.heap.size:=by
 cases a with
 | none=>have:=h.nil rfl;omega
 | some x =>
  obtain ⟨b,off,spot⟩:=x;obtain ⟨h1,h2,_⟩:=h.lies _ rfl (by omega);simp only at h1 h2;subst h2;exact ⟨b,off,rfl,h1⟩
theorem bH.level {V:List (List ag)} (h:bH lo w (some ⟨b,off,none⟩) len cap V) (hb:Bl w wr) (k:Nat) (hk:k<len) :
 ∃B s n c,V[k]?=some B∧wr.cell? ⟨b,off+k,none⟩=some (.slice s n c)∧az lo wr s n c B:=by
 have hk':k<V.length:=by rw [h.length];exact hk
 obtain ⟨s,n,c,c0,hL⟩:=(h.keep hb).levels _ rfl k hk';exact ⟨V[k],s,n,c,List.getElem?_eq_getElem hk',c0,hL⟩
structure bf (lo:Nat) (w:World) (am:Option Addr) (nm cm:Nat) (av:Option Addr) (nv cv:Nat) (ak:Option Addr) (ns cs:Nat) (M:List ac) (V:List (List ag)) (S:List Int):Prop where
 mem:eu lo w am nm cm M
 levels:bH lo w av nv cv V
 snaps:bG lo w ak ns cs S
theorem bf.same {V:List (List ag)} (h:bf lo w am nm cm av nv cv ak ns cs M V S) (hs:dJ lo w w'):bf lo w' am nm cm av nv cv ak ns cs M V S:=⟨h.mem.same hs,h.levels.same hs,h.snaps.same hs⟩
theorem bf.keep {V:List (List ag)} (h:bf lo w am nm cm av nv cv ak ns cs M V S) (hb:Bl w w'):bf lo w' am nm cm av nv cv ak ns cs M V S:=h.same (dJ.of_below hb)
end Go.Proofs.YtpobkmjicbobdaaGreat
