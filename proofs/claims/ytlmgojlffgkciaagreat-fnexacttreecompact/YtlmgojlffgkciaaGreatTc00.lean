/-
  Short words for values and addresses.
-/
import Derived.WalkKit
import Derived.Lib.Bytealg
import Derived.Lib.Small
import Derived.Lib.Strings
import Derived.WalkSpells
import Derived.WalkLawsBesides
import Derived.Test.YtlmgojlffgkciaaGreatProg
import Derived.ProofKit
import Derived.Lib.SmallJoins
import Derived.Deep.Slices
import Derived.Deep.Strs
import Derived.Deep.SlicePairs
import Derived.OpenShut
namespace Go.Proofs.YtlmgojlffgkciaaGreat
open Go.RowKit
abbrev nZ:Value:=.slice none 0 0
abbrev sL (b n c:Nat):Value:=.slice (some ⟨b,0,none⟩) n c
abbrev sO (b o n c:Nat):Value:=.slice (some ⟨b,o,none⟩) n c
abbrev pT (b:Nat):Option Addr:=some ⟨b,0,none⟩
abbrev aD (b o:Nat):Addr:=⟨b,o,none⟩
abbrev iT (q:Int):Value:=.int .i64 q
abbrev Bl (w w':World):Prop:=Below w.heap.size w w'
theorem bZ {w:World} {o:Obj}:Below w.heap.size w (w.alloc o):=(Below.refl _ _).alloc (Nat.le_refl _) _
theorem li {B b:Nat} {a w:World} (h:Below B a w) (hB:B≤b) (v0 v1 v2 v3:Value):Below B a ((((w.setCell ⟨b,0,none⟩ v0).setCell ⟨b,1,none⟩ v1).setCell ⟨b,2,none⟩ v2).setCell ⟨b,3,none⟩ v3):=(((h.setCell (p:=⟨b,0,none⟩) hB _).setCell (p:=⟨b,1,none⟩) hB _).setCell (p:=⟨b,2,none⟩) hB _).setCell (p:=⟨b,3,none⟩) hB _
theorem bc {p:Prop} (h:p):Hid p:=h
theorem ay {α:Type} (a:α):∃x,x=a:=⟨a,rfl⟩
end Go.Proofs.YtlmgojlffgkciaaGreat

namespace Go.Proofs.YtlmgojlffgkciaaGreat
open Go.RowKit
theorem mF (s:ByteArray) (k:Nat) (h:k<s.size):s.data.toList.take (k+1)=s.data.toList.take k++[s[k]]:=by
 rw [List.take_succ_eq_append_getElem (by simpa using h)];rfl
theorem aq {a b:Bool} (h:a=b):Ending.returned (.bool a)=.returned (.bool b):=by rw [h]
theorem iI {k:IntKind} {a b:Int} (h:a=b):Ending.returned (.int k a)=.returned (.int k b):=by rw [h]
end Go.Proofs.YtlmgojlffgkciaaGreat

namespace Go.Proofs.YtlmgojlffgkciaaGreat
open Go.RowKit
def gG (b:UInt8):Bool:=(decide (97≤b.toNat) && decide (b.toNat≤122)) || (decide (47≤b.toNat) && decide (b.toNat≤57))
def eX (s:ByteArray):Bool:=decide (1≤s.size) && (decide (s.size≤8) && s.data.toList.all gG)
theorem qm {b:UInt8} (h:gG b=true):(97≤(b.toNat:Int)∧(b.toNat:Int)≤122)∨(47≤(b.toNat:Int)∧(b.toNat:Int)≤57):=by
 simp [gG] at h;omega
theorem oR {b:UInt8} (h:gG b=false):(b.toNat:Int)<47∨(57<(b.toNat:Int)∧(b.toNat:Int)<97)∨122<(b.toNat:Int):=by
 simp [gG] at h;by_cases h1:b.toNat<47
 · exact Or.inl (by omega)
 · by_cases h2:b.toNat<97
   · exact Or.inr (Or.inl (by omega))
   · exact Or.inr (Or.inr (by omega))
theorem gU (s:ByteArray) (k:Nat) (h:k<s.size) (ha:(s.data.toList.take k).all gG=true) (hb:gG s[k]=true):(s.data.toList.take (k+1)).all gG=true:=by
 rw [mF s k h,List.all_append,ha];simp [hb]
theorem gh (s:ByteArray) (k:Nat) (h:k<s.size) (hb:gG s[k]=false):eX s=false:=by
 have:s.data.toList.all gG=false:=by
  rw [Bool.eq_false_iff];intro hall;rw [List.all_eq_true] at hall;have hm:s[k] ∈ s.data.toList:=by
   have:s.data.toList[k]'(by simpa using h)=s[k]:=rfl;rw [← this];exact List.getElem_mem _
  rw [hall _ hm] at hb;cases hb
 unfold eX;rw [this];simp
theorem uY (s:ByteArray) (h:s.size<1):eX s=false:=by
 unfold eX;have:decide (1≤s.size)=false:=decide_eq_false (by omega);rw [this];rfl
theorem zH (s:ByteArray) (h:8<s.size):eX s=false:=by
 unfold eX;have:decide (s.size≤8)=false:=decide_eq_false (by omega);rw [this];simp
theorem mP (s:ByteArray) (k:Nat) (hk:s.size≤k) (ha:(s.data.toList.take k).all gG=true):eX s=(decide (1≤s.size) && decide (s.size≤8)):=by
 unfold eX;rw [List.take_of_length_le (by simpa using hk)] at ha;simp [ha]
theorem zI (s:ByteArray) (h1:1≤s.size) (h8:s.size≤8) (k:Nat) (hk:s.size≤k) (ha:(s.data.toList.take k).all gG=true):eX s=true:=by
 rw [mP s k hk ha];simp [h1,h8]
theorem AG (n:Nat) (h:1≤(n:Int)):decide ((n:Int)≤8)=(decide (1≤n) && decide (n≤8)):=by
 have h1:decide (1≤n)=true:=decide_eq_true (by omega);rw [h1,Bool.true_and,Bool.eq_iff_iff];simp;omega
theorem Bq (n:Nat) (h:(n:Int)<1):false=(decide (1≤n) && decide (n≤8)):=by
 have h1:decide (1≤n)=false:=decide_eq_false (by omega);rw [h1];rfl
abbrev ac:=ByteArray × Int × Int × ByteArray × Int
abbrev iu:=Bool × ByteArray × Int
def fc (d:Int) (t:ByteArray) (n:Int):Bool :=
 if d=1 then true else if d=2 then decide (t.size=0) && decide (n=0) else if d=3 then decide (t.size=0) else false
def dc (k:ByteArray) (q d:Int) (t:ByteArray) (n:Int):Bool :=
 eX k && (decide (1≤q) && (decide (q≤100000) && (decide (-1000000≤n) && (decide (n≤1000000) && (decide (t.size≤60) && fc d t n)))))
theorem tN {k t:ByteArray} {q d n:Int} (h:eX k=false):dc k q d t n=false:=by simp [dc,h]
theorem wy {k t:ByteArray} {q d n:Int} (h:q<1):dc k q d t n=false:=by
 have:decide (1≤q)=false:=decide_eq_false (by omega);simp [dc,this]
theorem ww {k t:ByteArray} {q d n:Int} (h:100000<q):dc k q d t n=false:=by
 have:decide (q≤100000)=false:=decide_eq_false (by omega);simp [dc,this]
theorem wH {k t:ByteArray} {q d n:Int} (h:n < -1000000):dc k q d t n=false:=by
 have:decide (-1000000≤n)=false:=decide_eq_false (by omega);simp [dc,this]
theorem wG {k t:ByteArray} {q d n:Int} (h:1000000<n):dc k q d t n=false:=by
 have:decide (n≤1000000)=false:=decide_eq_false (by omega);simp [dc,this]
theorem Ad {k t:ByteArray} {q d n:Int} (h:60<t.size):dc k q d t n=false:=by
 have:decide (t.size≤60)=false:=decide_eq_false (by omega);simp [dc,this]
theorem dX {k t:ByteArray} {q d n:Int} (h:eX k=true) (h1:1≤q) (h2:q≤100000) (h3:-1000000≤n) (h4:n≤1000000) (h5:t.size≤60):dc k q d t n=fc d t n:=by
 simp [dc,h,h1,h2,h3,h4,h5]
theorem eZ {t:ByteArray} (h:t≠ByteArray.empty):t.size≠0:=by
 intro h0;apply h;apply ByteArray.ext;exact Array.eq_empty_of_size_eq_zero h0
theorem jK {t:ByteArray} (h:t≠ByteArray.empty):¬t.toList=[]:=by
 intro h0;apply h;rw [ByteArray.toList_eq] at h0;apply ByteArray.ext;exact Array.toList_eq_nil_iff.1 h0
theorem nz {t:ByteArray} {n:Int}:fc 1 t n=true:=by simp [fc]
theorem gN {t:ByteArray} {n:Int}:fc 2 t n=(decide (t.size=0) && decide (n=0)):=by simp [fc]
theorem lG {t:ByteArray} {n:Int}:fc 3 t n=decide (t.size=0):=by simp [fc]
theorem nC {d:Int} {t:ByteArray} {n:Int} (h1:d≠1) (h2:d≠2) (h3:d≠3):fc d t n=false:=by simp [fc,h1,h2,h3]
end Go.Proofs.YtlmgojlffgkciaaGreat
namespace Go.Proofs.YtlmgojlffgkciaaGreat
open Go.RowKit
theorem ip:∀(a b:List UInt8),(Lib.compareBytes a b=-1∧Op.bytesLess a b=true∧a≠b)∨(Lib.compareBytes a b=0∧Op.bytesLess a b=false∧a=b)∨(Lib.compareBytes a b=1∧Op.bytesLess a b=false∧a≠b)
 | [],[]=>Or.inr (Or.inl ⟨rfl,rfl,rfl⟩)
 | [],_ :: _=>Or.inl ⟨rfl,rfl,by simp⟩
 | _ :: _,[]=>Or.inr (Or.inr ⟨rfl,rfl,by simp⟩)
 | x :: a,y :: b=>by
  have ih:=ip a b
  unfold Lib.compareBytes Op.bytesLess
  by_cases h1:x<y
  · have hne:x≠y:=fun e=>UInt8.lt_irrefl y (e ▸ h1)
    exact Or.inl ⟨by simp [h1],by simp [h1],fun e=>hne (by simpa using (List.cons.inj e).1)⟩
  · by_cases h2:y<x
    · have hne:x≠y:=fun e=>UInt8.lt_irrefl y (e ▸ h2)
      exact Or.inr (Or.inr ⟨by simp [h1,h2],by simp [h1,hne],fun e=>hne (by simpa using (List.cons.inj e).1)⟩)
    · have he:x=y:=UInt8.le_antisymm (UInt8.not_lt.1 h2) (UInt8.not_lt.1 h1)
      subst he
      rcases ih with ⟨p,q,r⟩ | ⟨p,q,r⟩ | ⟨p,q,r⟩
      · exact Or.inl ⟨by simp [h1,p],by simp [q],by simpa using r⟩
      · exact Or.inr (Or.inl ⟨by simp [h1,p],by simp [h1,q],by simpa using r⟩)
      · exact Or.inr (Or.inr ⟨by simp [h1,p],by simp [h1,q],by simpa using r⟩)
def bQ (ka:ByteArray) (qa:Int) (kb:ByteArray) (qb:Int):Bool :=
 Op.bytesLess ka.data.toList kb.data.toList || (decide (ka=kb) && decide (qb<qa))
end Go.Proofs.YtlmgojlffgkciaaGreat
namespace Go.Proofs.YtlmgojlffgkciaaGreat
open Go.RowKit
theorem dK:∀a:List UInt8,Op.bytesLess a a=false
 | []=>rfl
 | x :: a=>by
  unfold Op.bytesLess
  have:=dK a
  simp [this]
theorem fQ:∀a b:List UInt8,Op.bytesLess a b=true→Op.bytesLess b a=false
 | [],[],h=>by simp [Op.bytesLess] at h
 | [],_ :: _,_=>rfl
 | _ :: _,[],h=>by simp [Op.bytesLess] at h
 | x :: a,y :: b,h=>by
  unfold Op.bytesLess at h ⊢
  have ih:=fQ a b
  simp only [Bool.or_eq_true,decide_eq_true_eq,Bool.and_eq_true,beq_iff_eq] at h
  rcases h with h | ⟨rfl,h⟩
  · have h1:¬y<x:=fun g=>UInt8.lt_asymm h g
    have h2:¬y=x:=fun g=>UInt8.lt_irrefl x (by rw [g] at h;exact h)
    simp [h1,h2]
  · simp [ih h]
theorem jB:∀a b:List UInt8,a≠b→Op.bytesLess a b=true∨Op.bytesLess b a=true
 | [],[],h=>absurd rfl h
 | [],_ :: _,_=>Or.inl rfl
 | _ :: _,[],_=>Or.inr rfl
 | x :: a,y :: b,h=>by
  unfold Op.bytesLess
  by_cases h1:x<y
  · left;simp [h1]
  · by_cases h2:y<x
    · right;simp [h2]
    · have he:x=y:=UInt8.le_antisymm (UInt8.not_lt.1 h2) (UInt8.not_lt.1 h1)
      subst he
      have ih:=jB a b (fun e=>h (by rw [e]))
      rcases ih with ih | ih
      · left;simp [ih]
      · right;simp [ih]
theorem cF:∀a b c:List UInt8,Op.bytesLess a b=true→Op.bytesLess b c=true→Op.bytesLess a c=true
 | _,_,[],_,h=>by simp [Op.bytesLess] at h
 | [],_,_ :: _,_,_=>rfl
 | _ :: _,[],_ :: _,h,_=>by simp [Op.bytesLess] at h
 | x :: a,y :: b,z :: c,h,k=>by
  unfold Op.bytesLess at h k ⊢
  simp only [Bool.or_eq_true,decide_eq_true_eq,Bool.and_eq_true,beq_iff_eq] at h k ⊢
  rcases h with h | ⟨rfl,h⟩
  · rcases k with k | ⟨rfl,k⟩
    · exact Or.inl (UInt8.lt_trans h k)
    · exact Or.inl h
  · rcases k with k | ⟨rfl,k⟩
    · exact Or.inl k
    · exact Or.inr ⟨rfl,cF a b c h k⟩
theorem iO (k:ByteArray) (q:Int):bQ k q k q=false:=by
 unfold bQ;simp [dK]
theorem eQ {ka kb:ByteArray} {qa qb:Int} (h:bQ ka qa kb qb=true):Op.bytesLess ka.data.toList kb.data.toList=true∨(ka=kb∧qb<qa):=by
 unfold bQ at h;simpa using h
theorem tq {ka kb:ByteArray} {qa qb:Int} (h:bQ ka qa kb qb=true):bQ kb qb ka qa=false:=by
 rcases eQ h with h | ⟨rfl,h⟩
 · have h1:=fQ _ _ h;have h2:¬kb=ka:=fun e=>by rw [e,dK] at h;cases h
   unfold bQ;simp [h1,h2]
 · unfold bQ;have:¬qa<qb:=by omega
   simp [dK,this]
theorem gM {ka kb kc:ByteArray} {qa qb qc:Int} (h:bQ ka qa kb qb=true) (k:bQ kb qb kc qc=true):bQ ka qa kc qc=true:=by
 unfold bQ;rcases eQ h with h | ⟨rfl,h⟩
 · rcases eQ k with k | ⟨rfl,k⟩
   · simp [cF _ _ _ h k]
   · simp [h]
 · rcases eQ k with k | ⟨rfl,k⟩
   · simp [k]
   · have:qc<qa:=by omega
     simp [this]
theorem ql (ka kb:ByteArray) (qa qb:Int):(bQ ka qa kb qb || bQ kb qb ka qa)=(decide (¬ka=kb) || decide (¬qa=qb)):=by
 by_cases he:ka=kb
 · subst he;unfold bQ;rw [dK];by_cases h1:qb<qa
   · have:¬qa=qb:=by omega
     simp [h1,this]
   · by_cases h2:qa<qb
     · have:¬qa=qb:=by omega
       simp [h2,this]
     · have:qa=qb:=by omega
       simp [this]
 · have hne:ka.data.toList≠kb.data.toList:=fun e=>he (ByteArray.ext (Array.toList_inj.1 e))
   unfold bQ;rcases jB _ _ hne with h | h <;> simp [h,he]
end Go.Proofs.YtlmgojlffgkciaaGreat
namespace Go.Proofs.YtlmgojlffgkciaaGreat
open Go.RowKit
def tC (h:Nat) (b:UInt8):Nat:=(31*h+b.toNat) % 65521
def jg (l:List UInt8):Nat:=l.foldl tC 7
def vW (h:Nat):Nat:=2 ^ (h % 16) ||| 2 ^ (h / 16 % 16)
def gJ (s:ByteArray):Nat:=vW (jg s.data.toList)
theorem qx (s:ByteArray) (k:Nat) (h:k<s.size):jg (s.data.toList.take (k+1))=tC (jg (s.data.toList.take k)) s[k]:=by
 rw [mF s k h];simp [jg]
theorem ft {a:Nat} (h:a<16):2 ^ a<65536:=by
 have:2 ^ a<2 ^ 16:=Nat.pow_lt_pow_right (by omega) h;exact this
theorem ie {a b:Nat} (ha:a<65536) (hb:b<65536):a ||| b<65536:=Nat.or_lt_two_pow (n:=16) ha hb
theorem zu (h:Nat):vW h<65536:=ie (ft (Nat.mod_lt _ (by omega))) (ft (Nat.mod_lt _ (by omega)))
theorem oH (s:ByteArray):gJ s<65536:=zu _
theorem AO (a b i:Nat):(a ||| b) / 2 ^ i=(a ||| b) / 2 ^ (i+1)*2+(if a / 2 ^ i % 2=1∨b / 2 ^ i % 2=1 then 1 else 0):=by
 have h1:(a ||| b).testBit i=(a.testBit i || b.testBit i):=Nat.testBit_or ..;rw [Nat.testBit_eq_decide_div_mod_eq,Nat.testBit_eq_decide_div_mod_eq,Nat.testBit_eq_decide_div_mod_eq] at h1;have h2:(a ||| b) / 2 ^ (i+1)=(a ||| b) / 2 ^ i / 2:=by rw [Nat.pow_succ,Nat.div_div_eq_div_mul]
 rw [h2];by_cases h3:a / 2 ^ i % 2=1∨b / 2 ^ i % 2=1
 · rw [if_pos h3];have:(a ||| b) / 2 ^ i % 2=1:=by
    have:decide ((a ||| b) / 2 ^ i % 2=1)=true:=by rw [h1];simpa using h3
    exact of_decide_eq_true this
   omega
 · rw [if_neg h3];have:¬(a ||| b) / 2 ^ i % 2=1:=by
    have:decide ((a ||| b) / 2 ^ i % 2=1)=false:=by
     rw [h1];have h4:¬a / 2 ^ i % 2=1:=fun e=>h3 (Or.inl e)
     have h5:¬b / 2 ^ i % 2=1:=fun e=>h3 (Or.inr e)
     simp [h4,h5]
    exact of_decide_eq_false this
   omega
def dg (L:List ac):Nat:=L.foldl (fun m e=>m ||| gJ e.1) 0
theorem oG {L:List ac} {k:Nat} {e:ac} (h:L[k]?=some e):dg (L.take (k+1))=dg (L.take k) ||| gJ e.1:=by
 rw [List.take_add_one,h];simp [dg]
theorem zt (L:List ac):dg L<65536:=by
 have:∀(L:List ac) (m:Nat),m<65536→L.foldl (fun m e=>m ||| gJ e.1) m<65536:=by
  intro L;induction L with
  | nil=>intro m h;exact h
  | cons a r ih=>intro m h;exact ih _ (ie h (oH _))
 exact this L 0 (by omega)
def kQ (L:List ac) (j:Nat):Bool :=
 match L[j]? with
 | none=>true
 | some e=>dc e.1 e.2.1 e.2.2.1 e.2.2.2.1 e.2.2.2.2 && (match j with | 0=>true | i+1=>match L[i]? with | none=>true | some d=>bQ d.1 d.2.1 e.1 e.2.1)
def az (L:List ac):Bool:=(List.range L.length).all (kQ L)
def i8 (L:List ac) (k:Nat):Prop:=∀j,j<k→kQ L j=true
theorem ly {L:List ac} {k:Nat} (h:i8 L k) (hk:L.length≤k):az L=true:=by
 unfold az;rw [List.all_eq_true];intro j hj;exact h j (by have:=List.mem_range.1 hj;omega)
theorem lA {L:List ac} {k:Nat} (hk:k<L.length) (h:kQ L k=false):az L=false:=by
 rw [Bool.eq_false_iff];intro h1;unfold az at h1;rw [List.all_eq_true] at h1;rw [h1 k (List.mem_range.2 hk)] at h;cases h
theorem iE {L:List ac} {k:Nat} (h:i8 L k) (hk:kQ L k=true):i8 L (k+1):=by
 intro j hj;by_cases e:j=k
 · rw [e];exact hk
 · exact h j (by omega)
theorem jS {L:List ac} {e:ac} (h:L[0]?=some e):kQ L 0=dc e.1 e.2.1 e.2.2.1 e.2.2.2.1 e.2.2.2.2:=by
 unfold kQ;rw [h];simp
theorem ig {L:List ac} {i:Nat} {d e:ac} (h:L[i+1]?=some e) (g:L[i]?=some d):kQ L (i+1)=(dc e.1 e.2.1 e.2.2.1 e.2.2.2.1 e.2.2.2.2 && bQ d.1 d.2.1 e.1 e.2.1):=by
 unfold kQ;simp only [h,g]
theorem oz {L:List ac} {k:Nat} {e:ac} (h:L[k]?=some e) (g:dc e.1 e.2.1 e.2.2.1 e.2.2.2.1 e.2.2.2.2=false):kQ L k=false:=by
 unfold kQ;rw [h];simp [g]
def cW (L:List ac) (m:Int):Bool:=decide (1≤L.length) && (decide (L.length≤150) && (az L && decide (m=dg L)))
theorem sM {L:List ac} {m:Int} (h:L.length<1):cW L m=false:=by
 have:decide (1≤L.length)=false:=decide_eq_false (by omega);simp [cW,this]
theorem p8 {L:List ac} {m:Int} (h:150<L.length):cW L m=false:=by
 have:decide (L.length≤150)=false:=decide_eq_false (by omega);simp [cW,this]
theorem oo {L:List ac} {m:Int} (h:az L=false):cW L m=false:=by simp [cW,h]
theorem p7 {L:List ac} {m:Int} (h1:1≤L.length) (h2:L.length≤150) (h3:az L=true):cW L m=decide (m=dg L):=by
 simp [cW,h1,h2,h3]
end Go.Proofs.YtlmgojlffgkciaaGreat
namespace Go.Proofs.YtlmgojlffgkciaaGreat
open Go.RowKit
theorem sT {L:List ac} (h:az L=true) (j:Nat) (hj:j<L.length):kQ L j=true:=by
 unfold az at h;rw [List.all_eq_true] at h;exact h j (List.mem_range.2 hj)
theorem ep {L:List ac} (h:az L=true) {j:Nat} {e:ac} (hj:L[j]?=some e):dc e.1 e.2.1 e.2.2.1 e.2.2.2.1 e.2.2.2.2=true:=by
 have h1:=sT h j (List.getElem?_eq_some_iff.1 hj).1;cases g:dc e.1 e.2.1 e.2.2.1 e.2.2.2.1 e.2.2.2.2 with
 | true=>rfl
 | false=>rw [oz hj g] at h1;cases h1
theorem uF {L:List ac} (h:az L=true) {j:Nat} {d e:ac} (hd:L[j]?=some d) (he:L[j+1]?=some e):bQ d.1 d.2.1 e.1 e.2.1=true:=by
 have h1:=sT h (j+1) (List.getElem?_eq_some_iff.1 he).1;rw [ig he hd] at h1;simp at h1;exact h1.2
theorem gq {L:List ac} (h:az L=true) {i j:Nat} (hij:i<j) {d e:ac} (hd:L[i]?=some d) (he:L[j]?=some e):bQ d.1 d.2.1 e.1 e.2.1=true:=by
 induction j generalizing e with
 | zero=>omega
 | succ j ih =>
  have hj:j<L.length:=by have:=(List.getElem?_eq_some_iff.1 he).1;omega
  have hg:L[j]?=some L[j]:=List.getElem?_eq_getElem hj;have hn:=uF h hg he;by_cases e1:i=j
  · subst e1;rw [hg] at hd;cases hd;exact hn
  · exact gM (ih (by omega) hg) hn
theorem Ae {k t:ByteArray} {q d n:Int} (h:dc k q d t n=true):1≤q∧q≤100000:=by
 simp [dc] at h;exact ⟨h.2.1,h.2.2.1⟩
theorem aO {L:List ac} {m:Int} (h:cW L m=true):1≤L.length∧L.length≤150∧az L=true∧m=dg L:=by
 simpa [cW] using h
end Go.Proofs.YtlmgojlffgkciaaGreat

namespace Go.Proofs.YtlmgojlffgkciaaGreat
open Go.RowKit
theorem qJ {W w1:World} (hb:Bl W w1):(∀b o,b<W.heap.size→w1.cell? ⟨b,o,none⟩=W.cell? ⟨b,o,none⟩)∧(∀b o,b<W.heap.size→w1.frozen? ⟨b,o,none⟩=W.frozen? ⟨b,o,none⟩) :=
 ⟨fun b o h=>hb.cell (p:=⟨b,o,none⟩) h,fun b o h=>hb.frozen (p:=⟨b,o,none⟩) h⟩
end Go.Proofs.YtlmgojlffgkciaaGreat

namespace Go.Proofs.YtlmgojlffgkciaaGreat
open Go.RowKit Go.Joins Go.ChangeShapes Go.WideShapes Go.Deep
theorem Tryz.cellsEntL:Tryz.prog.cellsOf 77=5:=by kernel_rfl
def eO (e:ac):Prop:=e.1.size≤maxLen∧(Lit.int .i64 e.2.1).wf=true∧(Lit.int .i64 e.2.2.1).wf=true∧e.2.2.2.1.size≤maxLen∧(Lit.int .i64 e.2.2.2.2).wf=true
set_option maxHeartbeats 400000 in
theorem r9 (k t:ByteArray) (q d n left:Int) (w:World) (hk:k.size≤maxLen) (ht:t.size≤maxLen) (h0:0≤left) (h1:left≤1048576) (h:left<k.size+t.size) :
 Calls Tryz.prog 55 #[.agg #[.string k,iT q,iT d,.string t,iT n],iT left] w fun e w'=>e=.returned (iT (-1))∧Bl w w':=by
 unfold maxLen at hk ht;by_cases hc:left<k.size
 · go_enter Tryz.func55,Tryz.ntmps55
   go_wp2;go_ret;exact ⟨rfl,bZ⟩
 · go_enter Tryz.func55,Tryz.ntmps55
   go_wp2;go_ret;exact ⟨rfl,bZ⟩
set_option maxHeartbeats 400000 in
theorem pN (k t:ByteArray) (q d n left:Int) (w:World) (h1:left≤1048576) (h:(k.size:Int)+t.size≤left) :
 Calls Tryz.prog 55 #[.agg #[.string k,iT q,iT d,.string t,iT n],iT left] w fun e w'=>e=.returned (iT (left - k.size - t.size))∧Bl w w':=by
 go_enter Tryz.func55,Tryz.ntmps55
 go_wp2;go_ret;exact ⟨rfl,bZ⟩
set_option maxHeartbeats 400000 in
theorem pM (k t:ByteArray) (q d n:Int) (w:World) :
 Calls Tryz.prog 57 #[.agg #[.string k,iT q,iT d,.string t,iT n]] w fun e w'=>e=.returned (.agg #[.string k,iT q,iT d,.string t,iT n])∧Bl w w':=by
 go_enter Tryz.func57,Tryz.ntmps57
 go_wp2;refine bodyPost_ret (v:=.agg #[.string k,iT q,iT d,.string t,iT n]) (by simp [results,Tryz.results57,go_sem]) rfl ⟨rfl,?_⟩;exact (bZ.alloc (by simp) _).alloc (by simp;omega) _
end Go.Proofs.YtlmgojlffgkciaaGreat

namespace Go.Proofs.YtlmgojlffgkciaaGreat
set_option maxRecDepth 100000
open Go.RowKit Go.Joins Go.ChangeShapes Go.WideShapes
def jG (w:World) (b o:Nat) (e:ac):Prop:=w.cell? ⟨b,o,none⟩=some (.string e.1)∧w.cell? ⟨b,o+1,none⟩=some (iT e.2.1)∧w.cell? ⟨b,o+2,none⟩=some (iT e.2.2.1)∧w.cell? ⟨b,o+3,none⟩=some (.string e.2.2.2.1)∧w.cell? ⟨b,o+4,none⟩=some (iT e.2.2.2.2)
theorem jG.moved {w w':World} {b o:Nat} {e:ac} (h:jG w b o e) (hc:∀o,w'.cell? ⟨b,o,none⟩=w.cell? ⟨b,o,none⟩):jG w' b o e :=
 ⟨(hc _).trans h.1,(hc _).trans h.2.1,(hc _).trans h.2.2.1,(hc _).trans h.2.2.2.1,(hc _).trans h.2.2.2.2⟩
structure af (w:World) (a:Option Addr) (len cap:Nat) (L:List ac):Prop where
 length:L.length=len
 room:len≤cap
 big:cap≤maxLen
 ents:∀e ∈ L,eO e
 nil:a=none→len=0
 lies:∀x,a=some x→0<len→x.block<w.heap.size∧x.spot=none
 cells:∀x,a=some x→∀i (h:i<L.length),jG w x.block (x.off+i*5) L[i]
theorem af.moved {w w':World} {a:Option Addr} {len cap:Nat} {L:List ac} (h:af w a len cap L) (hs:w.heap.size≤w'.heap.size) (hc:∀x,a=some x→0<len→∀o,w'.cell? ⟨x.block,o,none⟩=w.cell? ⟨x.block,o,none⟩):af w' a len cap L where
 length:=h.length
 room:=h.room
 big:=h.big
 ents:=h.ents
 nil:=h.nil
 lies:=fun x e hp=>⟨Nat.lt_of_lt_of_le (h.lies x e hp).1 hs,(h.lies x e hp).2⟩
 cells:=fun x e i hi=>(h.cells x e i hi).moved (hc x e (by have:=h.length;omega))
theorem af.below {B:Nat} {w w':World} {a:Option Addr} {len cap:Nat} {L:List ac} (h:af w a len cap L) (hb:Below B w w') (hB:∀x,a=some x→0<len→x.block<B):af w' a len cap L :=
 h.moved hb.size (fun x e hp o=>hb.cell (p:=⟨x.block,o,none⟩) (hB x e hp))
theorem af.keep {w w':World} {a:Option Addr} {len cap:Nat} {L:List ac} (h:af w a len cap L) (hb:Bl w w'):af w' a len cap L:=h.below hb (fun x e hp=>(h.lies x e hp).1)
theorem af.setCell {w:World} {a:Option Addr} {len cap:Nat} {L:List ac} (h:af w a len cap L) (p:Addr) (u:Value) (hp:∀x,a=some x→0<len→x.block≠p.block):af (w.setCell p u) a len cap L :=
 h.moved (by simp [World.setCell]) (fun x e hl o=>World.cell?_of_block (by rw [Below.heap_setCell _ _ _ _ (hp x e hl)]))
theorem af.ent {B:Nat} {w wr:World} {b off len cap:Nat} {L:List ac} (h:af w (some ⟨b,off,none⟩) len cap L) (hb:Below B w wr) (hB:b<B) (k:Nat) (hk:k<len) :
 ∃s q d t n,L[k]?=some (s,q,d,t,n)∧eO (s,q,d,t,n)∧wr.cell? ⟨b,off+k*5,none⟩=some (.string s)∧wr.cell? ⟨b,off+k*5+1,none⟩=some (iT q)∧wr.cell? ⟨b,off+k*5+2,none⟩=some (iT d)∧wr.cell? ⟨b,off+k*5+3,none⟩=some (.string t)∧wr.cell? ⟨b,off+k*5+4,none⟩=some (iT n):=by
 have hk':k<L.length:=by rw [h.length];exact hk
 obtain ⟨c0,c1,c2,c3,c4⟩:=(h.cells _ rfl k hk').moved (fun o=>hb.cell (p:=⟨b,o,none⟩) hB);exact ⟨L[k].1,L[k].2.1,L[k].2.2.1,L[k].2.2.2.1,L[k].2.2.2.2,List.getElem?_eq_getElem hk',h.ents _ (List.getElem_mem hk'),c0,c1,c2,c3,c4⟩
theorem af.form {w:World} {a:Option Addr} {len cap:Nat} {L:List ac} (h:af w a len cap L) (hl:1≤len):∃b off,a=some ⟨b,off,none⟩∧b<w.heap.size:=by
 cases a with
 | none=>have:=h.nil rfl;omega
 | some x =>
  obtain ⟨b,off,spot⟩:=x;obtain ⟨h1,h2⟩:=h.lies _ rfl (by omega);simp only at h1 h2;subst h2;exact ⟨b,off,rfl,h1⟩
theorem qM {H:Type} {enc:TypeId × Value→H} {P:Program} {w:World} {base:Nat} {spare:Nat→Bool} {held:Bool} {t:TypeId} {f0 f1 f2 f3 f4:Field} {fuel:Nat} {cs:List Value} {x:DataW H × List MemPlace} (ht:P.underlying t=some (.struct #[f0,f1,f2,f3,f4])) (h:DataW.trod enc P w base spare held fuel t cs=some x) :
 ∃y0 y1 y2 y3 y4 n,DataW.trod enc P w base spare held n f0.type ((cs.drop f0.offset).take (P.cellsOf f0.type))=some y0∧DataW.trod enc P w base spare held n f1.type ((cs.drop f1.offset).take (P.cellsOf f1.type))=some y1∧DataW.trod enc P w base spare held n f2.type ((cs.drop f2.offset).take (P.cellsOf f2.type))=some y2∧DataW.trod enc P w base spare held n f3.type ((cs.drop f3.offset).take (P.cellsOf f3.type))=some y3∧DataW.trod enc P w base spare held n f4.type ((cs.drop f4.offset).take (P.cellsOf f4.type))=some y4:=by
 obtain ⟨xs,n,_,rfl,hl,hlen,hf⟩:=DataW.trod_struct ht h;match xs,hlen with
 | [y0,y1,y2,y3,y4],_=>exact ⟨y0,y1,y2,y3,y4,n,by simpa using hf 0 f0 rfl,by simpa using hf 1 f1 rfl,by simpa using hf 2 f2 rfl,by simpa using hf 3 f3 rfl,by simpa using hf 4 f4 rfl⟩
theorem qf {H:Type} {enc:TypeId × Value→H} {W:World} {base fuel:Nat} {v:Value} {x:DataW H × List MemPlace} {held:Bool} (hy1:DataW.trod enc Tryz.prog W base (fun _=>true) held fuel 22 [v]=some x) :
 ∃(a:Option Addr) (len cap:Nat) (L:List ac),v=.slice a len cap∧af W a len cap L:=by
 rcases Deep.open_slice Tryz.underlying22 hy1 with ⟨hcs,_⟩ | ⟨a,len,cap,mm,n,D,Pl,hcs,hb,hl,hm,hmm,_,hx⟩
 · simp at hcs;subst hcs;exact ⟨none,0,0,[],rfl,⟨rfl,Nat.le_refl _,Nat.zero_le _,by simp,fun _=>rfl,(fun x e=>by cases e),(fun x e=>by cases e)⟩⟩
 · simp at hcs;subst hcs;simp at hmm;rw [Tryz.cellsEntL] at hx;have each:∀i,i<mm→∃l:ac,eO l∧W.cell? (a.add (i*5))=some (.string l.1)∧W.cell? (a.add (i*5+1))=some (iT l.2.1)∧W.cell? (a.add (i*5+2))=some (iT l.2.2.1)∧W.cell? (a.add (i*5+3))=some (.string l.2.2.2.1)∧W.cell? (a.add (i*5+4))=some (iT l.2.2.2.2):=by
    intro i hi;obtain ⟨cs',g1,g2⟩:=hx i hi;obtain ⟨_,hlen,hcell⟩:=World.cells?_some g1;obtain ⟨z0,z1,z2,z3,z4,n',t0,t1,t2,t3,t4⟩:=qM Tryz.underlying77 g2;match cs',hlen with
    | [u0,u1,u2,u3,u4],_ =>
     have k0:=hcell 0 (by omega);have k1:=hcell 1 (by omega);have k2:=hcell 2 (by omega);have k3:=hcell 3 (by omega);have k4:=hcell 4 (by omega);rw [Deep.add_add] at k0 k1 k2 k3 k4;obtain ⟨s,q0,_,ws⟩:=DataW.trod_string Tryz.underlying9 t0;obtain ⟨q,q1,_,wq⟩:=DataW.trod_int Tryz.underlying3 t1;obtain ⟨d,q2,_,wd⟩:=DataW.trod_int Tryz.underlying3 t2;obtain ⟨t,q3,_,wt⟩:=DataW.trod_string Tryz.underlying9 t3;obtain ⟨nn,q4,_,wn⟩:=DataW.trod_int Tryz.underlying3 t4;have r3:Tryz.prog.cellsOf 9=1:=by kernel_rfl
     have r4:Tryz.prog.cellsOf 3=1:=by kernel_rfl
     simp [r3,r4] at q0 q1 q2 q3 q4;subst q0 q1 q2 q3 q4;exact ⟨(s,q,d,t,nn),⟨ws,wq,wd,wt,wn⟩,by simpa using k0,by simpa using k1,by simpa using k2,by simpa using k3,by simpa using k4⟩
   obtain ⟨f,hf⟩:=Deep.choose_lt each;have spot:0<len→a.spot=none:=fun hp=>by
    have:=(hf 0 (by omega)).2.1;simpa [Addr.add] using World.cell?_spot this
   have plain:0<len→∀j,a.add j=⟨a.block,a.off+j,none⟩:=fun hp j=>by
    have:=spot hp;obtain ⟨b,o,sp⟩:=a;simp only at this;subst this;exact add_plain _ _ _
   refine ⟨some a,len,cap,(List.range len).map f,rfl,⟨by simp,hl,hm,?_,(fun e=>by cases e),?_,?_⟩⟩
   · intro l hl';obtain ⟨i,hi,rfl⟩:=List.mem_map.1 hl';exact (hf i (by have:=List.mem_range.1 hi;omega)).1
   · rintro x e hp;cases e;refine ⟨?_,spot hp⟩;obtain ⟨cs',g1,_⟩:=hx 0 (by omega);have:=World.cells?_block g1 (by omega);simpa [Addr.add] using this
   · rintro x e i hi;cases e;simp at hi;obtain ⟨_,g0,g1,g2,g3,g4⟩:=hf i (by omega);rw [plain (by omega)] at g0 g1 g2 g3 g4;simp only [List.getElem_map,List.getElem_range];exact ⟨g0,by simpa [Nat.add_assoc] using g1,by simpa [Nat.add_assoc] using g2,by simpa [Nat.add_assoc] using g3,by simpa [Nat.add_assoc] using g4⟩
end Go.Proofs.YtlmgojlffgkciaaGreat

namespace Go.Proofs.YtlmgojlffgkciaaGreat
open Go.RowKit Go.Joins Go.ChangeShapes Go.WideShapes
theorem Tryz.cellsRunL:Tryz.prog.cellsOf 144=2:=by kernel_rfl
end Go.Proofs.YtlmgojlffgkciaaGreat

namespace Go.Proofs.YtlmgojlffgkciaaGreat
set_option maxRecDepth 100000
open Go.RowKit Go.Joins Go.ChangeShapes Go.WideShapes
theorem Tryz.infoInt:(Tryz.prog.info? 3).map (fun i=>(i.zero,i.size,i.bytes))=some (some (iT 0),1,8):=by kernel_rfl
def bz (lo:Nat) (w w':World):Prop:=w.heap.size≤w'.heap.size∧∀b o,lo≤b→b<w.heap.size→w'.cell? ⟨b,o,none⟩=w.cell? ⟨b,o,none⟩
theorem bz.of_below {lo:Nat} {w w':World} (hb:Bl w w'):bz lo w w':=⟨hb.size,fun b o _ h=>hb.cell (p:=⟨b,o,none⟩) h⟩
theorem bz.of_set {lo:Nat} {w:World} (p:Addr) (u:Value) (h:p.block<lo):bz lo w (w.setCell p u) :=
 ⟨by simp [World.setCell],fun b o hb _=>World.cell?_of_block (by rw [Below.heap_setCell _ _ _ _ (by simp only;omega)])⟩
theorem bz.trans {lo:Nat} {w w' w'':World} (h:bz lo w w') (h':bz lo w' w''):bz lo w w'' :=
 ⟨Nat.le_trans h.1 h'.1,fun b o hb hl=>(h'.2 b o hb (Nat.lt_of_lt_of_le hl h.1)).trans (h.2 b o hb hl)⟩
structure aT (lo:Nat) (w:World) (a:Option Addr) (len cap:Nat) (S:List Int):Prop where
 length:S.length=len
 room:len≤cap
 big:cap≤maxLen
 wfs:∀q ∈ S,(Lit.int .i64 q).wf=true
 nil:a=none→len=0
 lies:∀x,a=some x→0<len→x.block<w.heap.size∧x.spot=none∧lo≤x.block
 cells:∀x,a=some x→∀i (h:i<S.length),w.cell? ⟨x.block,x.off+i,none⟩=some (iT S[i])
theorem aT.same {lo:Nat} {w w':World} {a:Option Addr} {len cap:Nat} {S:List Int} (h:aT lo w a len cap S) (hs:bz lo w w'):aT lo w' a len cap S where
 length:=h.length
 room:=h.room
 big:=h.big
 wfs:=h.wfs
 nil:=h.nil
 lies:=fun x e hp=>⟨Nat.lt_of_lt_of_le (h.lies x e hp).1 hs.1,(h.lies x e hp).2⟩
 cells:=fun x e i hi=>by
  obtain ⟨hx,_,hlo⟩:=h.lies x e (by have:=h.length;omega)
  exact (hs.2 _ _ hlo hx).trans (h.cells x e i hi)
theorem aT.keep {lo:Nat} {w w':World} {a:Option Addr} {len cap:Nat} {S:List Int} (h:aT lo w a len cap S) (hb:Bl w w'):aT lo w' a len cap S:=h.same (bz.of_below hb)
theorem aT.lower {lo lo':Nat} {w:World} {a:Option Addr} {len cap:Nat} {S:List Int} (h:aT lo w a len cap S) (hl:lo'≤lo):aT lo' w a len cap S :=
 ⟨h.length,h.room,h.big,h.wfs,h.nil,fun x e hp=>⟨(h.lies x e hp).1,(h.lies x e hp).2.1,Nat.le_trans hl (h.lies x e hp).2.2⟩,h.cells⟩
theorem aT.form {lo:Nat} {w:World} {a:Option Addr} {len cap:Nat} {S:List Int} (h:aT lo w a len cap S) (hl:1≤len):∃b off,a=some ⟨b,off,none⟩∧b<w.heap.size:=by
 cases a with
 | none=>have:=h.nil rfl;omega
 | some x =>
  obtain ⟨b,off,spot⟩:=x;obtain ⟨h1,h2,_⟩:=h.lies _ rfl (by omega);simp only at h1 h2;subst h2;exact ⟨b,off,rfl,h1⟩
theorem aT.num {lo:Nat} {w wr:World} {b off len cap:Nat} {S:List Int} (h:aT lo w (some ⟨b,off,none⟩) len cap S) (hb:Bl w wr) (k:Nat) (hk:k<len) :
 ∃q,S[k]?=some q∧(Lit.int .i64 q).wf=true∧wr.cell? ⟨b,off+k,none⟩=some (iT q):=by
 have hk':k<S.length:=by rw [h.length];exact hk
 exact ⟨S[k],List.getElem?_eq_getElem hk',h.wfs _ (List.getElem_mem hk'),(h.keep hb).cells _ rfl k hk'⟩
theorem ou {a:Addr} (h:a.spot=none) (j:Nat):a.add j=⟨a.block,a.off+j,none⟩:=by
 obtain ⟨b,o,sp⟩:=a;simp only at h;subst h;exact add_plain _ _ _
theorem xE {H:Type} {enc:TypeId × Value→H} {W:World} {base n0:Nat} {v:Value} {x:DataW H × List MemPlace} {held:Bool}
 (hf:DataW.trod enc Tryz.prog W base (fun _=>true) held n0 24 [v]=some x) :
 ∃(a:Option Addr) (len cap:Nat) (S:List Int),v=.slice a len cap∧aT 0 W a len cap S:=by
 have r5:Tryz.prog.cellsOf 3=1:=by kernel_rfl
 rcases Deep.open_slice Tryz.underlying24 hf with ⟨hcs,_⟩ | ⟨a,len,cap,mm,n,D,Pl,hcs,hb,hl,hm,hmm,_,hx⟩
 · simp at hcs;subst hcs;exact ⟨none,0,0,[],rfl,⟨rfl,Nat.le_refl _,Nat.zero_le _,by simp,fun _=>rfl,(fun x e=>by cases e),(fun x e=>by cases e)⟩⟩
 · simp at hcs;subst hcs;simp at hmm;rw [r5] at hx;have each:∀i,i<mm→∃q:Int,(Lit.int .i64 q).wf=true∧W.cell? (a.add i)=some (iT q):=by
    intro i hi;obtain ⟨cs',g1,g2⟩:=hx i hi;obtain ⟨_,hlen,hcell⟩:=World.cells?_some g1;match cs',hlen with
    | [u0],_ =>
     have k0:=hcell 0 (by omega);rw [Deep.add_add] at k0;obtain ⟨q,e0,_,wq⟩:=DataW.trod_int Tryz.underlying3 g2;simp at e0;subst e0;exact ⟨q,wq,by simpa using k0⟩
   obtain ⟨f,hf'⟩:=Deep.choose_lt each;have spot:0<len→a.spot=none:=fun hp=>by
    obtain ⟨_,c0⟩:=hf' 0 (by omega);simpa [Addr.add] using World.cell?_spot c0
   refine ⟨some a,len,cap,(List.range len).map f,rfl,⟨by simp,hl,hm,?_,(fun e=>by cases e),?_,?_⟩⟩
   · intro q hq;obtain ⟨i,hi,rfl⟩:=List.mem_map.1 hq;exact (hf' i (by have:=List.mem_range.1 hi;omega)).1
   · rintro x e hp;cases e;refine ⟨?_,spot hp,Nat.zero_le _⟩;obtain ⟨_,c0⟩:=hf' 0 (by omega);have:=World.block_lt_of_cell? _ _ c0;simpa [Addr.add] using this
   · rintro x e i hi;cases e;simp at hi;obtain ⟨_,g0⟩:=hf' i (by omega);rw [ou (spot (by omega))] at g0;simp only [List.getElem_map,List.getElem_range];exact g0
end Go.Proofs.YtlmgojlffgkciaaGreat
