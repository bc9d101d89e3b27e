/- Walks. -/
import Derived.WalkKit
import Derived.Lib.Bytealg
import Derived.Lib.Small
import Derived.Lib.Strings
import Derived.WalkSpells
import Derived.WalkLawsBesides
import Derived.Test.YtpobkmjicbobdaaGreatProg
import Derived.ProofKit
import Derived.Lib.SmallJoins
import Derived.Deep.Slices
import Derived.Deep.Strs
import Derived.Deep.SlicePairs
import Derived.OpenShut
namespace Go.Proofs.YtpobkmjicbobdaaGreat
set_option maxRecDepth 100000
set_option maxHeartbeats 40000000
open Go.ChangeShapes Go.Deep Go.Joins Go.RowKit Go.WideShapes
variable {w:World}
abbrev j':=@List.getElem?_eq_getElem.{0}
abbrev l':=@Nat.lt_of_lt_of_le
abbrev u':=@World.cell?_setCell_other
abbrev Cx:=@List.getElem?_eq_some_iff.{0}
abbrev Cy:=@Nat.le_refl
abbrev Cz:=@World.block_lt_of_cell?
abbrev CU:=@List.getElem?_append_right.{0}
abbrev CV:=@List.mem_of_getElem?.{0}
abbrev CW:=@List.length_append.{0}
abbrev CZ:=@Option.some.inj.{0}
abbrev C3:=@Nat.zero_le
abbrev C4:=@World.cell?_setCell_same'
abbrev C5:=@List.length_take.{0}
abbrev C6:=@Nat.zero_add
abbrev C7:=@List.getElem?_append_left.{0}
abbrev C8:=@Nat.le_trans
abbrev C9:=@List.take_of_length_le.{0}
abbrev Da:=@List.mem_cons.{0}
abbrev Db:=@Bool.and_eq_true
abbrev Dc:=@World.size_alloc
abbrev Dd:=@List.mem_append.{0}
abbrev De:=@Go.WideShapes.add_plain
abbrev Df:=@List.mem_singleton.{0}
abbrev Dg:=@IntWalk.i64_left
abbrev Dh:=@List.length_drop.{0}
abbrev Di:=@List.append_assoc.{0}
abbrev Dj:=@World.frozen?_setCell
abbrev Dk:=@WalkArith.wf_i64
abbrev Dl:=@List.take_add_one.{0}
abbrev Dm:=@List.pairwise_cons.{0}
abbrev Dn:=@List.all_eq_true.{0}
abbrev Do:=@World.ownsRow_lit
abbrev Dp:=@ByteArray.toList_eq
abbrev Dq:=@List.getElem_mem.{0}
abbrev Dr:=@List.not_mem_nil.{0}
abbrev Ds:=@List.take_append_drop.{0}
abbrev Dt:=@List.pairwise_iff_getElem.{0}
abbrev Du:=@List.getElem_of_mem.{0}
abbrev Dv:=@IntKind.wrap_i64
abbrev Dw:=@List.mem_of_mem_take.{0}
abbrev Dx:=@List.getElem?_set_ne.{0}
abbrev Dy:=@List.mem_cons_self.{0}
abbrev Dz:=@Nat.succ_pos
abbrev DA:=@List.nil_append.{0}
abbrev DB:=@List.mem_cons_of_mem.{0}
abbrev DC:=@List.length_cons.{0}
abbrev DD:=@List.cons_append.{0}
abbrev DE:=@List.mem_of_mem_drop.{0}
abbrev DF:=@List.getElem?_of_mem.{0}
abbrev DG:=@List.mem_range
abbrev DH:=@List.getElem?_drop.{0}
abbrev DI:=@List.getElem?_take_of_lt.{0}
abbrev DJ:=@World.cell?_of_block
abbrev DK:=@List.pairwise_append.{0}
abbrev DL:=@Int.eq_ofNat_of_zero_le
abbrev DM:=@Array.getElem?_eq_some_iff.{0}
abbrev DN:=@Oper.semAt_some
abbrev DO:=@List.mem_map.{0,0}
abbrev DP:=@Nat.not_lt_zero
abbrev DQ:=@List.length_eq_zero_iff.{0}
abbrev DR:=@List.drop_eq_getElem_cons.{0}
abbrev DS:=@Nat.add_zero
abbrev DT:=@Array.getElem?_push_size.{0}
abbrev DU:=@Nat.add_sub_cancel
abbrev DV:=@List.Pairwise.sublist.{0}
abbrev DW:=@List.flatten_cons.{0}
abbrev DX:=@List.getElem?_set_self.{0}
abbrev DY:=@List.drop_of_length_le.{0}
abbrev DZ:=@List.set_append_right.{0}
abbrev D0:=@Nat.add_sub_cancel_left
abbrev D3:=@List.getElem_take.{0}
abbrev D4:=@List.filter_eq_nil_iff.{0}
abbrev D5:=@List.drop_drop.{0}
abbrev D6:=@Ne.symm.{0}
abbrev D7:=@Bool.eq_false_iff
abbrev D8:=@List.getElem_drop.{0}
abbrev D9:=@List.size_toArray.{0}
abbrev Ea:=@List.filter_append.{0}
abbrev Eb:=@List.set_cons_zero.{0}
abbrev Ec:=@List.length_nil.{0}
abbrev Ed:=@Array.toList_inj.{0}
abbrev Ee:=@List.Sublist.refl.{0}
abbrev Ef:=@ByteArray.ext
abbrev Eg:=@Nat.sub_self
abbrev Eh:=@List.append_nil.{0}
abbrev Ei:=@List.getElem?_cons_succ.{0}
abbrev Ej:=@List.mem_flatMap.{0,0}
abbrev Ek:=@Array.replicate_succ.{0}
abbrev El:=@Array.replicate_zero.{0}
abbrev Em:=@List.mem_iff_getElem.{0}
abbrev En:=@List.setIfInBounds_toArray.{0}
abbrev Eo:=@Nat.add_assoc
abbrev Ep:=@List.map_cons.{0,0}
abbrev Eq:=@World.frozen?_of_block
abbrev Er:=@Option.some.injEq.{0}
abbrev Es:=@List.any_eq_false.{0}
abbrev Et:=@List.append_toArray.{0}
abbrev Eu:=@List.getElem?_eq_none.{0}
abbrev Ev:=@List.map_nil.{0,0}
abbrev Ew:=@List.mem_flatten.{0}
abbrev Ex:=@List.getElem?_cons_zero.{0}
abbrev Ey:=@World.frozen?_alloc_new
abbrev Ez:=@List.push_toArray.{0}
abbrev EA:=@List.Sublist.append.{0}
abbrev EB:=@List.flatten_append.{0}
abbrev EC:=@List.mem_reverse.{0}
abbrev ED:=@List.set_cons_succ.{0}
abbrev EE:=@Bool.false_eq_true
abbrev EF:=@List.mem_or_eq_of_mem_set.{0}
abbrev EG:=@Bool.or_eq_true
abbrev EH:=@List.mem_filter.{0}
abbrev EI:=@List.length_map.{0,0}
abbrev EJ:=@List.map_append.{0,0}
abbrev EK:=@List.getElem?_map.{0,0}
abbrev EL:=@List.pairwise_singleton.{0}
abbrev EM:=@List.drop_eq_nil_of_le.{0}
abbrev EN:=@Nat.lt_of_le_of_lt
abbrev EO:=@Nat.zero_mul
abbrev EP:=@Nat.le_of_lt
abbrev EQ:=@List.getElem?_take.{0}
abbrev ER:=@List.length_filter_le.{0}
abbrev ES:=@List.flatMap_cons.{0,0}
abbrev ET:=@List.drop_sublist.{0}
def CG (p:Prop):Prop:=p
theorem CG.o {p:Prop} (h:CG p):p:=h
def CN (p:Prop):Prop:=p
theorem CN.o {p:Prop} (h:CN p):p:=h
abbrev nZ:Value:=.slice none 0 0
abbrev sL (b n c:Nat):Value:=.slice (some ⟨b,0,none⟩) n c
abbrev sO (b o n c:Nat):Value:=.slice (some ⟨b,o,none⟩) n c
abbrev pT (b:Nat):Option Addr:=some ⟨b,0,none⟩
abbrev aD (b o:Nat):Addr:=⟨b,o,none⟩
abbrev iT (q:Int):Value:=.int .i64 q
abbrev Bl (w w':World):Prop:=Below w.heap.size w w'
theorem bZ {o:Obj}:Below w.heap.size w (w.alloc o):=(Below.refl _ _).alloc (Cy _) _
theorem qX {B b:Nat} {a:World} (h:Below B a w) (hB:B≤b) (v0 d e v3:Value):Below B a ((((w.setCell ⟨b,0,none⟩ v0).setCell ⟨b,1,none⟩ d).setCell ⟨b,2,none⟩ e).setCell ⟨b,3,none⟩ v3):=(((h.setCell (p:=⟨b,0,none⟩) hB _).setCell (p:=⟨b,1,none⟩) hB _).setCell (p:=⟨b,2,none⟩) hB _).setCell (p:=⟨b,3,none⟩) hB _
theorem bO {p:Prop} (h:p):CG p:=h
theorem aH {α:Type} (a:α):∃x,x=a:=⟨a,rfl⟩
theorem my (s:ByteArray) (k:Nat) (h:k<s.size):s.data.toList.take (k+1)=s.data.toList.take k++[s[k]]:=by
 rw [List.take_succ_eq_append_getElem (by simpa using h)];rfl
theorem ah {a b:Bool} (h:a=b):Ending.returned (.bool a)=.returned (.bool b):=by rw [h]
theorem lj {k:IntKind} {a b:Int} (h:a=b):Ending.returned (.int k a)=.returned (.int k b):=by rw [h]
end Go.Proofs.YtpobkmjicbobdaaGreat
namespace Go.Proofs.YtpobkmjicbobdaaGreat
open Go.RowKit
def gH (b:UInt8):Bool:=(decide (97≤b.toNat) && decide (b.toNat≤122)) || (decide (47≤b.toNat) && decide (b.toNat≤57))
def fu (s:ByteArray):Bool:=decide (1≤s.size) && (decide (s.size≤8) && s.data.toList.all gH)
theorem ql {b:UInt8} (h:gH b=true):(97≤(b.toNat:Int)∧(b.toNat:Int)≤122)∨(47≤(b.toNat:Int)∧(b.toNat:Int)≤57):=by
 simp [gH] at h;omega
theorem oH {b:UInt8} (h:gH b=false):(b.toNat:Int)<47∨(57<(b.toNat:Int)∧(b.toNat:Int)<97)∨122<(b.toNat:Int):=by
 simp [gH] at h;by_cases h1:b.toNat<47
 · exact Or.inl (by omega)
 · by_cases h2:b.toNat<97
   · exact Or.inr (Or.inl (by omega))
   · exact Or.inr (Or.inr (by omega))
theorem gX (s:ByteArray) (k:Nat) (h:k<s.size) (ha:(s.data.toList.take k).all gH=true) (hb:gH s[k]=true):(s.data.toList.take (k+1)).all gH=true:=by
 rw [my s k h,List.all_append,ha];simp [hb]
theorem f6 (s:ByteArray) (k:Nat) (h:k<s.size) (hb:gH s[k]=false):fu s=false:=by
 have:s.data.toList.all gH=false:=by
  rw [D7];intro d;rw [Dn] at d;have hm:s[k] ∈ s.data.toList:=by
   have:s.data.toList[k]'(by simpa using h)=s[k]:=rfl;rw [← this];exact Dq _
  rw [d _ hm] at hb;cases hb
 unfold fu;rw [this];simp
theorem uV (s:ByteArray) (h:s.size<1):fu s=false:=by
 unfold fu;have:decide (1≤s.size)=false:=decide_eq_false (by omega);rw [this];rfl
theorem zm (s:ByteArray) (h:8<s.size):fu s=false:=by
 unfold fu;have:decide (s.size≤8)=false:=decide_eq_false (by omega);rw [this];simp
theorem mH (s:ByteArray) (k:Nat) (hk:s.size≤k) (ha:(s.data.toList.take k).all gH=true):fu s=(decide (1≤s.size) && decide (s.size≤8)):=by
 unfold fu;rw [C9 (by simpa using hk)] at ha;simp [ha]
theorem zo (s:ByteArray) (h1:1≤s.size) (d:s.size≤8) (k:Nat) (hk:s.size≤k) (ha:(s.data.toList.take k).all gH=true):fu s=true:=by
 rw [mH s k hk ha];simp [h1,d]
theorem Ai (n:Nat) (h:1≤(n:Int)):decide ((n:Int)≤8)=(decide (1≤n) && decide (n≤8)):=by
 have h1:decide (1≤n)=true:=decide_eq_true (by omega);rw [h1,Bool.true_and,Bool.eq_iff_iff];simp;omega
theorem Bd (n:Nat) (h:(n:Int)<1):false=(decide (1≤n) && decide (n≤8)):=by
 have h1:decide (1≤n)=false:=decide_eq_false (by omega);rw [h1];rfl
abbrev ac:=ByteArray × Int × Int × ByteArray × Int
abbrev eN:=Bool × ByteArray × Int
def fp (d:Int) (t:ByteArray) (n:Int):Bool :=
 if d=1 then true else if d=2 then decide (t.size=0) && decide (n=0) else if d=3 then decide (t.size=0) else false
def cT (k:ByteArray) (q d:Int) (t:ByteArray) (n:Int):Bool :=
 fu k && (decide (1≤q) && (decide (q≤100000) && (decide (-1000000≤n) && (decide (n≤1000000) && (decide (t.size≤60) && fp d t n)))))
theorem tD {k t:ByteArray} {q d n:Int} (h:fu k=false):cT k q d t n=false:=by simp [cT,h]
theorem vQ {k t:ByteArray} {q d n:Int} (h:q<1):cT k q d t n=false:=by
 have:decide (1≤q)=false:=decide_eq_false (by omega);simp [cT,this]
theorem vP {k t:ByteArray} {q d n:Int} (h:100000<q):cT k q d t n=false:=by
 have:decide (q≤100000)=false:=decide_eq_false (by omega);simp [cT,this]
theorem vS {k t:ByteArray} {q d n:Int} (h:n < -1000000):cT k q d t n=false:=by
 have:decide (-1000000≤n)=false:=decide_eq_false (by omega);simp [cT,this]
theorem vR {k t:ByteArray} {q d n:Int} (h:1000000<n):cT k q d t n=false:=by
 have:decide (n≤1000000)=false:=decide_eq_false (by omega);simp [cT,this]
theorem zK {k t:ByteArray} {q d n:Int} (h:60<t.size):cT k q d t n=false:=by
 have:decide (t.size≤60)=false:=decide_eq_false (by omega);simp [cT,this]
theorem d5 {k t:ByteArray} {q d n:Int} (h:fu k=true) (h1:1≤q) (h2:q≤100000) (h3:-1000000≤n) (h4:n≤1000000) (h5:t.size≤60):cT k q d t n=fp d t n:=by
 simp [cT,h,h1,h2,h3,h4,h5]
theorem fl {t:ByteArray} (h:t≠ByteArray.empty):t.size≠0:=by
 intro h0;apply h;apply Ef;exact Array.eq_empty_of_size_eq_zero h0
theorem jr {t:ByteArray} (h:t≠ByteArray.empty):¬t.toList=[]:=by
 intro h0;apply h;rw [Dp] at h0;apply Ef;exact Array.toList_eq_nil_iff.1 h0
theorem mW {t:ByteArray} {n:Int}:fp 1 t n=true:=by simp [fp]
theorem gQ {t:ByteArray} {n:Int}:fp 2 t n=(decide (t.size=0) && decide (n=0)):=by simp [fp]
theorem ly {t:ByteArray} {n:Int}:fp 3 t n=decide (t.size=0):=by simp [fp]
theorem mX {d:Int} {t:ByteArray} {n:Int} (h1:d≠1) (h2:d≠2) (h3:d≠3):fp d t n=false:=by simp [fp,h1,h2,h3]
end Go.Proofs.YtpobkmjicbobdaaGreat
namespace Go.Proofs.YtpobkmjicbobdaaGreat
open Go.RowKit
theorem mq:∀(a b:List UInt8),(Lib.compareBytes a b=-1∧Op.bytesLess a b=true∧a≠b)∨(Lib.compareBytes a b=0∧Op.bytesLess a b=false∧a=b)∨(Lib.compareBytes a b=1∧Op.bytesLess a b=false∧a≠b)
 | [],[]=>Or.inr (Or.inl ⟨rfl,rfl,rfl⟩)
 | [],_ :: _=>Or.inl ⟨rfl,rfl,by simp⟩
 | _ :: _,[]=>Or.inr (Or.inr ⟨rfl,rfl,by simp⟩)
 | x :: a,y :: b=>by
  have f:=mq a b
  unfold Lib.compareBytes Op.bytesLess
  by_cases h1:x<y
  · have d:x≠y:=fun e=>UInt8.lt_irrefl y (e ▸ h1)
    exact Or.inl ⟨by simp [h1],by simp [h1],fun e=>d (by simpa using (List.cons.inj e).1)⟩
  · by_cases h2:y<x
    · have d:x≠y:=fun e=>UInt8.lt_irrefl y (e ▸ h2)
      exact Or.inr (Or.inr ⟨by simp [h1,h2],by simp [h1,d],fun e=>d (by simpa using (List.cons.inj e).1)⟩)
    · have g:x=y:=UInt8.le_antisymm (UInt8.not_lt.1 h2) (UInt8.not_lt.1 h1)
      subst g
      rcases f with ⟨p,q,r⟩ | ⟨p,q,r⟩ | ⟨p,q,r⟩
      · exact Or.inl ⟨by simp [h1,p],by simp [q],by simpa using r⟩
      · exact Or.inr (Or.inl ⟨by simp [h1,p],by simp [h1,q],by simpa using r⟩)
      · exact Or.inr (Or.inr ⟨by simp [h1,p],by simp [h1,q],by simpa using r⟩)
def bo (ka:ByteArray) (qa:Int) (kb:ByteArray) (qb:Int):Bool :=
 Op.bytesLess ka.data.toList kb.data.toList || (decide (ka=kb) && decide (qb<qa))
end Go.Proofs.YtpobkmjicbobdaaGreat
namespace Go.Proofs.YtpobkmjicbobdaaGreat
open Go.RowKit
theorem bU:∀a:List UInt8,Op.bytesLess a a=false
 | []=>rfl
 | x :: a=>by
  unfold Op.bytesLess
  have:=bU a
  simp [this]
theorem ee:∀a b:List UInt8,Op.bytesLess a b=true→Op.bytesLess b a=false
 | [],[],h=>by simp [Op.bytesLess] at h
 | [],_ :: _,_=>rfl
 | _ :: _,[],h=>by simp [Op.bytesLess] at h
 | x :: a,y :: b,h=>by
  unfold Op.bytesLess at h ⊢
  have d:=ee a b
  simp only [EG,decide_eq_true_eq,Db,beq_iff_eq] at h
  rcases h with h | ⟨rfl,h⟩
  · have h1:¬y<x:=fun g=>UInt8.lt_asymm h g
    have h2:¬y=x:=fun g=>UInt8.lt_irrefl x (by rw [g] at h;exact h)
    simp [h1,h2]
  · simp [d h]
theorem gU:∀a b:List UInt8,a≠b→Op.bytesLess a b=true∨Op.bytesLess b a=true
 | [],[],h=>absurd rfl h
 | [],_ :: _,_=>Or.inl rfl
 | _ :: _,[],_=>Or.inr rfl
 | x :: a,y :: b,h=>by
  unfold Op.bytesLess
  by_cases h1:x<y
  · left;simp [h1]
  · by_cases h2:y<x
    · right;simp [h2]
    · have f:x=y:=UInt8.le_antisymm (UInt8.not_lt.1 h2) (UInt8.not_lt.1 h1)
      subst f
      have d:=gU a b (fun e=>h (by rw [e]))
      rcases d with d | d
      · left;simp [d]
      · right;simp [d]
theorem b7:∀a b c:List UInt8,Op.bytesLess a b=true→Op.bytesLess b c=true→Op.bytesLess a c=true
 | _,_,[],_,h=>by simp [Op.bytesLess] at h
 | [],_,_ :: _,_,_=>rfl
 | _ :: _,[],_ :: _,h,_=>by simp [Op.bytesLess] at h
 | x :: a,y :: b,z :: c,h,k=>by
  unfold Op.bytesLess at h k ⊢
  simp only [EG,decide_eq_true_eq,Db,beq_iff_eq] at h k ⊢
  rcases h with h | ⟨rfl,h⟩
  · rcases k with k | ⟨rfl,k⟩
    · exact Or.inl (UInt8.lt_trans h k)
    · exact Or.inl h
  · rcases k with k | ⟨rfl,k⟩
    · exact Or.inl k
    · exact Or.inr ⟨rfl,b7 a b c h k⟩
theorem oD (k:ByteArray) (q:Int):bo k q k q=false:=by
 unfold bo;simp [bU]
theorem dU {e d:ByteArray} {g f:Int} (h:bo e g d f=true):Op.bytesLess e.data.toList d.data.toList=true∨(e=d∧f<g):=by
 unfold bo at h;simpa using h
theorem tp {ka d:ByteArray} {f qb:Int} (h:bo ka f d qb=true):bo d qb ka f=false:=by
 rcases dU h with h | ⟨rfl,h⟩
 · have h1:=ee _ _ h;have h2:¬d=ka:=fun e=>by rw [e,bU] at h;cases h
   unfold bo;simp [h1,h2]
 · unfold bo;have:¬f<qb:=by omega
   simp [bU,this]
theorem fO {g f m:ByteArray} {qa e d:Int} (h:bo g qa f e=true) (k:bo f e m d=true):bo g qa m d=true:=by
 unfold bo;rcases dU h with h | ⟨rfl,h⟩
 · rcases dU k with k | ⟨rfl,k⟩
   · simp [b7 _ _ _ h k]
   · simp [h]
 · rcases dU k with k | ⟨rfl,k⟩
   · simp [k]
   · have:d<qa:=by omega
     simp [this]
theorem qh (g f:ByteArray) (d qb:Int):(bo g d f qb || bo f qb g d)=(decide (¬g=f) || decide (¬d=qb)):=by
 by_cases n:g=f
 · subst n;unfold bo;rw [bU];by_cases h1:qb<d
   · have:¬d=qb:=by omega
     simp [h1,this]
   · by_cases h2:d<qb
     · have:¬d=qb:=by omega
       simp [h2,this]
     · have:d=qb:=by omega
       simp [this]
 · have m:g.data.toList≠f.data.toList:=fun e=>n (Ef (Ed.1 e))
   unfold bo;rcases gU _ _ m with h | h <;> simp [h,n]
end Go.Proofs.YtpobkmjicbobdaaGreat
namespace Go.Proofs.YtpobkmjicbobdaaGreat
open Go.RowKit
def AY (h:Nat) (b:UInt8):Nat:=(31*h+b.toNat) % 65521
def iS (l:List UInt8):Nat:=l.foldl AY 7
def vG (h:Nat):Nat:=2 ^ (h % 16) ||| 2 ^ (h / 16 % 16)
def gN (s:ByteArray):Nat:=vG (iS s.data.toList)
theorem qx (s:ByteArray) (k:Nat) (h:k<s.size):iS (s.data.toList.take (k+1))=AY (iS (s.data.toList.take k)) s[k]:=by
 rw [my s k h];simp [iS]
theorem fD {a:Nat} (h:a<16):2 ^ a<65536:=by
 have:2 ^ a<2 ^ 16:=Nat.pow_lt_pow_right (by omega) h;exact this
theorem ii {a b:Nat} (ha:a<65536) (hb:b<65536):a ||| b<65536:=Nat.or_lt_two_pow (n:=16) ha hb
theorem zd (h:Nat):vG h<65536:=ii (fD (Nat.mod_lt _ (by omega))) (fD (Nat.mod_lt _ (by omega)))
theorem oy (s:ByteArray):gN s<65536:=zd _
theorem Au (a b i:Nat):(a ||| b) / 2 ^ i=(a ||| b) / 2 ^ (i+1)*2+(if a / 2 ^ i % 2=1∨b / 2 ^ i % 2=1 then 1 else 0):=by
 have h1:(a ||| b).testBit i=(a.testBit i || b.testBit i):=Nat.testBit_or ..;rw [Nat.testBit_eq_decide_div_mod_eq,Nat.testBit_eq_decide_div_mod_eq,Nat.testBit_eq_decide_div_mod_eq] at h1;have h2:(a ||| b) / 2 ^ (i+1)=(a ||| b) / 2 ^ i / 2:=by rw [Nat.pow_succ,Nat.div_div_eq_div_mul]
 rw [h2];by_cases h3:a / 2 ^ i % 2=1∨b / 2 ^ i % 2=1
 · rw [if_pos h3];have:(a ||| b) / 2 ^ i % 2=1:=by
    have:decide ((a ||| b) / 2 ^ i % 2=1)=true:=by rw [h1];simpa using h3
    exact of_decide_eq_true this
   omega
 · rw [if_neg h3];have:¬(a ||| b) / 2 ^ i % 2=1:=by
    have:decide ((a ||| b) / 2 ^ i % 2=1)=false:=by
     rw [h1];have h4:¬a / 2 ^ i % 2=1:=fun e=>h3 (Or.inl e)
     have h5:¬b / 2 ^ i % 2=1:=fun e=>h3 (Or.inr e)
     simp [h4,h5]
    exact of_decide_eq_false this
   omega
def cV (L:List ac):Nat:=L.foldl (fun m e=>m ||| gN e.1) 0
theorem ow {L:List ac} {k:Nat} {e:ac} (h:L[k]?=some e):cV (L.take (k+1))=cV (L.take k) ||| gN e.1:=by
 rw [Dl,h];simp [cV]
theorem lq (L:List ac):cV L<65536:=by
 have:∀(L:List ac) (m:Nat),m<65536→L.foldl (fun m e=>m ||| gN e.1) m<65536:=by
  intro L;induction L with
  | nil=>intro m h;exact h
  | cons a r d=>intro m h;exact d _ (ii h (oy _))
 exact this L 0 (by omega)
def ke (L:List ac) (j:Nat):Bool :=
 match L[j]? with
 | none=>true
 | some e=>cT e.1 e.2.1 e.2.2.1 e.2.2.2.1 e.2.2.2.2 && (match j with | 0=>true | i+1=>match L[i]? with | none=>true | some d=>bo d.1 d.2.1 e.1 e.2.1)
def aI (L:List ac):Bool:=(List.range L.length).all (ke L)
def iQ (L:List ac) (k:Nat):Prop:=∀j,j<k→ke L j=true
theorem lh {L:List ac} {k:Nat} (h:iQ L k) (hk:L.length≤k):aI L=true:=by
 unfold aI;rw [Dn];intro j d;exact h j (by have:=DG.1 d;omega)
theorem li {L:List ac} {k:Nat} (hk:k<L.length) (h:ke L k=false):aI L=false:=by
 rw [D7];intro h1;unfold aI at h1;rw [Dn] at h1;rw [h1 k (DG.2 hk)] at h;cases h
theorem iC {L:List ac} {k:Nat} (h:iQ L k) (hk:ke L k=true):iQ L (k+1):=by
 intro j d;by_cases e:j=k
 · rw [e];exact hk
 · exact h j (by omega)
theorem jC {L:List ac} {e:ac} (h:L[0]?=some e):ke L 0=cT e.1 e.2.1 e.2.2.1 e.2.2.2.1 e.2.2.2.2:=by
 unfold ke;rw [h];simp
theorem ij {L:List ac} {i:Nat} {d e:ac} (h:L[i+1]?=some e) (g:L[i]?=some d):ke L (i+1)=(cT e.1 e.2.1 e.2.2.1 e.2.2.2.1 e.2.2.2.2 && bo d.1 d.2.1 e.1 e.2.1):=by
 unfold ke;simp only [h,g]
theorem oo {L:List ac} {k:Nat} {e:ac} (h:L[k]?=some e) (g:cT e.1 e.2.1 e.2.2.1 e.2.2.2.1 e.2.2.2.2=false):ke L k=false:=by
 unfold ke;rw [h];simp [g]
def ch (L:List ac) (m:Int):Bool:=decide (1≤L.length) && (decide (L.length≤150) && (aI L && decide (m=cV L)))
theorem sR {L:List ac} {m:Int} (h:L.length<1):ch L m=false:=by
 have:decide (1≤L.length)=false:=decide_eq_false (by omega);simp [ch,this]
theorem p5 {L:List ac} {m:Int} (h:150<L.length):ch L m=false:=by
 have:decide (L.length≤150)=false:=decide_eq_false (by omega);simp [ch,this]
theorem nY {L:List ac} {m:Int} (h:aI L=false):ch L m=false:=by simp [ch,h]
theorem pZ {L:List ac} {m:Int} (h1:1≤L.length) (h2:L.length≤150) (h3:aI L=true):ch L m=decide (m=cV L):=by
 simp [ch,h1,h2,h3]
end Go.Proofs.YtpobkmjicbobdaaGreat
namespace Go.Proofs.YtpobkmjicbobdaaGreat
open Go.RowKit
theorem sT {L:List ac} (h:aI L=true) (j:Nat) (d:j<L.length):ke L j=true:=by
 unfold aI at h;rw [Dn] at h;exact h j (DG.2 d)
theorem d4 {L:List ac} (h:aI L=true) {j:Nat} {e:ac} (d:L[j]?=some e):cT e.1 e.2.1 e.2.2.1 e.2.2.2.1 e.2.2.2.2=true:=by
 have h1:=sT h j (Cx.1 d).1;cases g:cT e.1 e.2.1 e.2.2.1 e.2.2.2.1 e.2.2.2.2 with
 | true=>rfl
 | false=>rw [oo d g] at h1;cases h1
theorem ux {L:List ac} (h:aI L=true) {j:Nat} {d e:ac} (hd:L[j]?=some d) (f:L[j+1]?=some e):bo d.1 d.2.1 e.1 e.2.1=true:=by
 have h1:=sT h (j+1) (Cx.1 f).1;rw [ij f hd] at h1;simp at h1;exact h1.2
theorem e9 {L:List ac} (h:aI L=true) {i j:Nat} (m:i<j) {d e:ac} (hd:L[i]?=some d) (f:L[j]?=some e):bo d.1 d.2.1 e.1 e.2.1=true:=by
 induction j generalizing e with
 | zero=>omega
 | succ j g =>
  have o:j<L.length:=by have:=(Cx.1 f).1;omega
  have hg:L[j]?=some L[j]:=j' o;have hn:=ux h hg f;by_cases n:i=j
  · subst n;rw [hg] at hd;cases hd;exact hn
  · exact fO (g (by omega) hg) hn
theorem lE {k t:ByteArray} {q d n:Int} (h:cT k q d t n=true):1≤q∧q≤100000:=by
 simp [cT] at h;exact ⟨h.2.1,h.2.2.1⟩
theorem bE {L:List ac} {m:Int} (h:ch L m=true):1≤L.length∧L.length≤150∧aI L=true∧m=cV L:=by
 simpa [ch] using h
def aQ (L:List ac) (key:ByteArray) (seq:Int):List ac:=L.filter (fun e=>decide (e.1=key) && decide (e.2.1≤seq))
theorem rH {L:List ac} (h:aI L=true) {key:ByteArray} {seq:Int} {i j:Nat} (hi:i≤L.length) (s:j≤L.length)
 (i1:∀p e,L[p]?=some e→p<i→bo e.1 e.2.1 key seq=true) (i2:∀p e,L[p]?=some e→i≤p→bo e.1 e.2.1 key seq=false)
 (j1:∀p e,L[p]?=some e→p<j→bo e.1 e.2.1 key 0=true) (j2:∀p e,L[p]?=some e→j≤p→bo e.1 e.2.1 key 0=false) :
 i≤j∧aQ L key seq=(L.drop i).take (j - i):=by
 have m:i≤j:=by
  by_cases h1:i≤j
  · exact h1
  · exfalso
    have f:j<L.length:=by omega
    have g:=j' f;have a:=i1 j _ g (by omega);have b:=j2 j _ g (Cy _);have c:=lE (d4 h g);rcases dU a with a | ⟨a,o⟩
    · unfold bo at b;rw [a] at b;simp at b
    · unfold bo at b;have:decide ((0:Int)<L[j].2.1)=true:=decide_eq_true (by omega);rw [this] at b;simp [a] at b
 refine ⟨m,?_⟩;have split:L=L.take i++((L.drop i).take (j - i)++L.drop j):=by
  have:(L.drop i).drop (j - i)=L.drop j:=by rw [D5];congr 1;omega
  rw [← this,Ds,Ds]
 unfold aQ;have f1:(L.take i).filter (fun e=>decide (e.1=key) && decide (e.2.1≤seq))=[]:=by
  rw [D4];intro e d;obtain ⟨p,hp,rfl⟩:=Du d;simp at hp;have g:L[p]?=some L[p]:=j' (by omega);have a:=i1 p _ g (by omega);simp only [D3];rcases dU a with a | ⟨a,o⟩
  · have:¬L[p].1=key:=fun e=>by rw [e,bU] at a;cases a
    simp [this]
  · have:¬L[p].2.1≤seq:=by omega
    simp [this]
 have n:(L.drop j).filter (fun e=>decide (e.1=key) && decide (e.2.1≤seq))=[]:=by
  rw [D4];intro e d;obtain ⟨p,hp,rfl⟩:=Du d;simp at hp;have g:L[j+p]?=some (L[j+p]'(by omega)):=j' (by omega);have b:=j2 (j+p) _ g (by omega);have c:=lE (d4 h g);simp only [D8];have:¬(L[j+p]'(by omega)).1=key:=fun e=>by
   unfold bo at b;have:decide ((0:Int)<(L[j+p]'(by omega)).2.1)=true:=decide_eq_true (by omega);rw [this,e,bU] at b;simp at b
  simp [this]
 have r:((L.drop i).take (j - i)).filter (fun e=>decide (e.1=key) && decide (e.2.1≤seq))=(L.drop i).take (j - i):=by
  rw [List.filter_eq_self];intro e d;obtain ⟨p,hp,rfl⟩:=Du d;simp at hp;have hq:i+p<L.length:=by omega
  have g:L[i+p]?=some (L[i+p]'hq):=j' hq;have a:=i2 (i+p) _ g (by omega);have b:=j1 (i+p) _ g (by omega);simp only [D3,D8];have hk:(L[i+p]'hq).1=key:=by
   rcases dU b with b | ⟨b,_⟩
   · exfalso
     unfold bo at a;rw [b] at a;simp at a
   · exact b
  have hs:(L[i+p]'hq).2.1≤seq:=by
   unfold bo at a;rw [hk,bU] at a;simp at a;exact a
  simp [hk,hs]
 rw [split,Ea,Ea,f1,r,n];rw [← split];simp
theorem gY {L:List ac} {key:ByteArray} {seq:Int} {k:Nat} {e:ac} (h:L[k]?=some e) (h1:e.1=key) (h2:e.2.1≤seq):aQ (L.take (k+1)) key seq=aQ (L.take k) key seq++[e]:=by
 rw [Dl,h];simp [aQ,h1,h2]
theorem eR {L:List ac} {key:ByteArray} {seq:Int} {k:Nat} {e:ac} (h:L[k]?=some e) (h1:¬(e.1=key∧e.2.1≤seq)):aQ (L.take (k+1)) key seq=aQ (L.take k) key seq:=by
 rw [Dl,h];simp only [aQ,Ea,Option.toList_some];have:List.filter (fun e=>decide (e.1=key) && decide (e.2.1≤seq)) [e]=[]:=by
  rw [D4];intro x hx;simp only [Df] at hx;subst hx;simp only [Db,decide_eq_true_eq];exact h1
 rw [this,Eh]
theorem io (L:List ac) (key:ByteArray) (seq:Int):(aQ L key seq).length≤L.length:=ER _ _
theorem oX {L:List ac} {key:ByteArray} {seq:Int} {e:ac} (h:e ∈ aQ L key seq):e ∈ L:=(EH.1 h).1
end Go.Proofs.YtpobkmjicbobdaaGreat
namespace Go.Proofs.YtpobkmjicbobdaaGreat
set_option maxRecDepth 100000
set_option maxHeartbeats 40000000
open Go.ChangeShapes Go.Deep Go.Joins Go.RowKit Go.WideShapes
variable {L M:List ac} {S:List Int} {W w w' wr:World} {ak am av:Option Addr} {b cap cm cs cv len lo lo' nm ns nv off:Nat}
theorem wg {d:World} (hb:Bl W d):(∀b o,b<W.heap.size→d.cell? ⟨b,o,none⟩=W.cell? ⟨b,o,none⟩)∧(∀b o,b<W.heap.size→d.frozen? ⟨b,o,none⟩=W.frozen? ⟨b,o,none⟩) :=
 ⟨fun b o h=>hb.cell (p:=⟨b,o,none⟩) h,fun b o h=>hb.frozen (p:=⟨b,o,none⟩) h⟩
def dR (e:ac):Prop:=e.1.size≤maxLen∧(Lit.int .i64 e.2.1).wf=true∧(Lit.int .i64 e.2.2.1).wf=true∧e.2.2.2.1.size≤maxLen∧(Lit.int .i64 e.2.2.2.2).wf=true
def jq (w:World) (b o:Nat) (e:ac):Prop:=w.cell? ⟨b,o,none⟩=some (.string e.1)∧w.cell? ⟨b,o+1,none⟩=some (iT e.2.1)∧w.cell? ⟨b,o+2,none⟩=some (iT e.2.2.1)∧w.cell? ⟨b,o+3,none⟩=some (.string e.2.2.2.1)∧w.cell? ⟨b,o+4,none⟩=some (iT e.2.2.2.2)
theorem jq.moved {o:Nat} {e:ac} (h:jq w b o e) (hc:∀o,w'.cell? ⟨b,o,none⟩=w.cell? ⟨b,o,none⟩):jq w' b o e :=
 ⟨(hc _).trans h.1,(hc _).trans h.2.1,(hc _).trans h.2.2.1,(hc _).trans h.2.2.2.1,(hc _).trans h.2.2.2.2⟩
structure ag (w:World) (a:Option Addr) (len cap:Nat) (L:List ac):Prop where
 length:L.length=len
 room:len≤cap
 big:cap≤maxLen
 ents:∀e ∈ L,dR e
 nil:a=none→len=0
 lies:∀x,a=some x→0<len→x.block<w.heap.size∧x.spot=none
 cells:∀x,a=some x→∀i (h:i<L.length),jq w x.block (x.off+i*5) L[i]
theorem ag.moved {a:Option Addr} (h:ag w a len cap L) (hs:w.heap.size≤w'.heap.size) (hc:∀x,a=some x→0<len→∀o,w'.cell? ⟨x.block,o,none⟩=w.cell? ⟨x.block,o,none⟩):ag w' a len cap L where
 length:=h.length
 room:=h.room
 big:=h.big
 ents:=h.ents
 nil:=h.nil
 lies:=fun x e hp=>⟨l' (h.lies x e hp).1 hs,(h.lies x e hp).2⟩
 cells:=fun x e i hi=>(h.cells x e i hi).moved (hc x e (by have:=h.length;omega))
theorem ag.below {B:Nat} {a:Option Addr} (h:ag w a len cap L) (hb:Below B w w') (hB:∀x,a=some x→0<len→x.block<B):ag w' a len cap L :=
 h.moved hb.size (fun x e hp o=>hb.cell (p:=⟨x.block,o,none⟩) (hB x e hp))
theorem ag.keep {a:Option Addr} (h:ag w a len cap L) (hb:Bl w w'):ag w' a len cap L:=h.below hb (fun x e hp=>(h.lies x e hp).1)
theorem ag.setCell {a:Option Addr} (h:ag w a len cap L) (p:Addr) (u:Value) (hp:∀x,a=some x→0<len→x.block≠p.block):ag (w.setCell p u) a len cap L :=
 h.moved (by simp [World.setCell]) (fun x e hl o=>DJ (by rw [Below.heap_setCell _ _ _ _ (hp x e hl)]))
theorem ag.ent {B:Nat} (h:ag w (some ⟨b,off,none⟩) len cap L) (hb:Below B w wr) (hB:b<B) (k:Nat) (hk:k<len) :
 ∃s q d t n,L[k]?=some (s,q,d,t,n)∧dR (s,q,d,t,n)∧wr.cell? ⟨b,off+k*5,none⟩=some (.string s)∧wr.cell? ⟨b,off+k*5+1,none⟩=some (iT q)∧wr.cell? ⟨b,off+k*5+2,none⟩=some (iT d)∧wr.cell? ⟨b,off+k*5+3,none⟩=some (.string t)∧wr.cell? ⟨b,off+k*5+4,none⟩=some (iT n):=by
 have e:k<L.length:=by rw [h.length];exact hk
 obtain ⟨c0,c1,c2,c3,c4⟩:=(h.cells _ rfl k e).moved (fun o=>hb.cell (p:=⟨b,o,none⟩) hB);exact ⟨L[k].1,L[k].2.1,L[k].2.2.1,L[k].2.2.2.1,L[k].2.2.2.2,j' e,h.ents _ (Dq e),c0,c1,c2,c3,c4⟩
theorem ag.form {a:Option Addr} (h:ag w a len cap L) (hl:1≤len):∃b off,a=some ⟨b,off,none⟩∧b<w.heap.size:=by
 cases a with
 | none=>have:=h.nil rfl;omega
 | some x =>
  obtain ⟨b,off,d⟩:=x;obtain ⟨h1,h2⟩:=h.lies _ rfl (by omega);simp only at h1 h2;subst h2;exact ⟨b,off,rfl,h1⟩
theorem Tryz.infoInt:(Tryz.prog.info? 3).map (fun i=>(i.zero,i.size,i.bytes))=some (some (iT 0),1,8):=by kernel_rfl
def gJ (lo:Nat) (w w':World):Prop:=w.heap.size≤w'.heap.size∧∀b o,lo≤b→b<w.heap.size→w'.cell? ⟨b,o,none⟩=w.cell? ⟨b,o,none⟩
theorem gJ.of_below (hb:Bl w w'):gJ lo w w':=⟨hb.size,fun b o _ h=>hb.cell (p:=⟨b,o,none⟩) h⟩
theorem gJ.of_set (p:Addr) (u:Value) (h:p.block<lo):gJ lo w (w.setCell p u) :=
 ⟨by simp [World.setCell],fun b o hb _=>DJ (by rw [Below.heap_setCell _ _ _ _ (by simp only;omega)])⟩
theorem gJ.trans {w'':World} (h:gJ lo w w') (d:gJ lo w' w''):gJ lo w w'' :=
 ⟨C8 h.1 d.1,fun b o hb hl=>(d.2 b o hb (l' hl h.1)).trans (h.2 b o hb hl)⟩
structure bQ (lo:Nat) (w:World) (a:Option Addr) (len cap:Nat) (S:List Int):Prop where
 length:S.length=len
 room:len≤cap
 big:cap≤maxLen
 wfs:∀q ∈ S,(Lit.int .i64 q).wf=true
 nil:a=none→len=0
 lies:∀x,a=some x→0<len→x.block<w.heap.size∧x.spot=none∧lo≤x.block
 cells:∀x,a=some x→∀i (h:i<S.length),w.cell? ⟨x.block,x.off+i,none⟩=some (iT S[i])
theorem bQ.same {a:Option Addr} (h:bQ lo w a len cap S) (hs:gJ lo w w'):bQ lo w' a len cap S where
 length:=h.length
 room:=h.room
 big:=h.big
 wfs:=h.wfs
 nil:=h.nil
 lies:=fun x e hp=>⟨l' (h.lies x e hp).1 hs.1,(h.lies x e hp).2⟩
 cells:=fun x e i hi=>by
  obtain ⟨hx,_,d⟩:=h.lies x e (by have:=h.length;omega)
  exact (hs.2 _ _ d hx).trans (h.cells x e i hi)
theorem bQ.keep {a:Option Addr} (h:bQ lo w a len cap S) (hb:Bl w w'):bQ lo w' a len cap S:=h.same (gJ.of_below hb)
theorem bQ.lower {a:Option Addr} (h:bQ lo w a len cap S) (hl:lo'≤lo):bQ lo' w a len cap S :=
 ⟨h.length,h.room,h.big,h.wfs,h.nil,fun x e hp=>⟨(h.lies x e hp).1,(h.lies x e hp).2.1,C8 hl (h.lies x e hp).2.2⟩,h.cells⟩
theorem bQ.form {a:Option Addr} (h:bQ lo w a len cap S) (hl:1≤len):∃b off,a=some ⟨b,off,none⟩∧b<w.heap.size:=by
 cases a with
 | none=>have:=h.nil rfl;omega
 | some x =>
  obtain ⟨b,off,d⟩:=x;obtain ⟨h1,h2,_⟩:=h.lies _ rfl (by omega);simp only at h1 h2;subst h2;exact ⟨b,off,rfl,h1⟩
theorem bQ.num (h:bQ lo w (some ⟨b,off,none⟩) len cap S) (hb:Bl w wr) (k:Nat) (hk:k<len) :
 ∃q,S[k]?=some q∧(Lit.int .i64 q).wf=true∧wr.cell? ⟨b,off+k,none⟩=some (iT q):=by
 have d:k<S.length:=by rw [h.length];exact hk
 exact ⟨S[k],j' d,h.wfs _ (Dq d),(h.keep hb).cells _ rfl k d⟩
theorem yV {a:Addr} (h:a.spot=none) (j:Nat):a.add j=⟨a.block,a.off+j,none⟩:=by
 obtain ⟨b,o,d⟩:=a;simp only at h;subst h;exact add_plain _ _ _
theorem open_ints {H:Type} {enc:TypeId × Value→H} {base E:Nat} {v:Value} {x:DataW H × List MemPlace} {held:Bool}
 (hf:DataW.trod enc Tryz.prog W base (fun _=>true) held E 24 [v]=some x) :
 ∃(a:Option Addr) (len cap:Nat) (S:List Int),v=.slice a len cap∧bQ 0 W a len cap S:=by
 have r5:Tryz.prog.cellsOf 3=1:=by kernel_rfl
 rcases Deep.open_slice Tryz.underlying24 hf with ⟨d,_⟩ | ⟨a,len,cap,C,n,D,J,d,hb,hl,hm,s,_,hx⟩
 · simp at d;subst d;exact ⟨none,0,0,[],rfl,⟨rfl,Cy _,C3 _,by simp,fun _=>rfl,(fun x e=>by cases e),(fun x e=>by cases e)⟩⟩
 · simp at d;subst d;simp at s;rw [r5] at hx;have each:∀i,i<C→∃q:Int,(Lit.int .i64 q).wf=true∧W.cell? (a.add i)=some (iT q):=by
    intro i hi;obtain ⟨t,I,F⟩:=hx i hi;obtain ⟨_,r,o⟩:=World.cells?_some I;match t,r with
    | [u0],_ =>
     have A:=o 0 (by omega);rw [Deep.add_add] at A;obtain ⟨q,y,_,B⟩:=DataW.trod_int Tryz.underlying3 F;simp at y;subst y;exact ⟨q,B,by simpa using A⟩
   obtain ⟨f,g⟩:=Deep.choose_lt each;have m:0<len→a.spot=none:=fun hp=>by
    obtain ⟨_,c0⟩:=g 0 (by omega);simpa [Addr.add] using World.cell?_spot c0
   refine ⟨some a,len,cap,(List.range len).map f,rfl,⟨by simp,hl,hm,?_,(fun e=>by cases e),?_,?_⟩⟩
   · intro q hq;obtain ⟨i,hi,rfl⟩:=DO.1 hq;exact (g i (by have:=DG.1 hi;omega)).1
   · rintro x e hp;cases e;refine ⟨?_,m hp,C3 _⟩;obtain ⟨_,c0⟩:=g 0 (by omega);have:=Cz _ _ c0;simpa [Addr.add] using this
   · rintro x e i hi;cases e;simp at hi;obtain ⟨_,u⟩:=g i (by omega);rw [yV (m (by omega))] at u;simp only [List.getElem_map,List.getElem_range];exact u
abbrev an:=List ac × Int
def eW (lo:Nat) (w:World) (a:Option Addr) (len cap:Nat) (L:List ac):Prop:=ag w a len cap L∧∀x,a=some x→0<len→lo≤x.block
theorem eW.same {a:Option Addr} (h:eW lo w a len cap L) (hs:gJ lo w w'):eW lo w' a len cap L :=
 ⟨h.1.moved hs.1 (fun x e hp _=>hs.2 _ _ (h.2 x e hp) (h.1.lies x e hp).1),h.2⟩
theorem eW.mono {a:Option Addr} (h:eW lo w a len cap L) (hl:lo'≤lo):eW lo' w a len cap L:=⟨h.1,fun x e hp=>C8 hl (h.2 x e hp)⟩
structure ay (lo:Nat) (w:World) (a:Option Addr) (len cap:Nat) (B:List an):Prop where
 length:B.length=len
 room:len≤cap
 big:cap≤maxLen
 nil:a=none→len=0
 lies:∀x,a=some x→0<len→x.block<w.heap.size∧x.spot=none∧lo≤x.block
 runs:∀x,a=some x→∀i (h:i<B.length),(Lit.int .i64 B[i].2).wf=true∧∃s n c,w.cell? ⟨x.block,x.off+i*2,none⟩=some (.slice s n c)∧w.cell? ⟨x.block,x.off+i*2+1,none⟩=some (iT B[i].2)∧eW lo w s n c B[i].1
theorem ay.same {a:Option Addr} {B:List an} (h:ay lo w a len cap B) (hs:gJ lo w w'):ay lo w' a len cap B where
 length:=h.length
 room:=h.room
 big:=h.big
 nil:=h.nil
 lies:=fun x e hp=>⟨l' (h.lies x e hp).1 hs.1,(h.lies x e hp).2⟩
 runs:=fun x e i hi=>by
  obtain ⟨hx,_,d⟩:=h.lies x e (by have:=h.length;omega)
  obtain ⟨hw,s,n,c,c0,c1,hL⟩:=h.runs x e i hi
  exact ⟨hw,s,n,c,(hs.2 _ _ d hx).trans c0,(hs.2 _ _ d hx).trans c1,hL.same hs⟩
theorem ay.keep {a:Option Addr} {B:List an} (h:ay lo w a len cap B) (hb:Bl w w'):ay lo w' a len cap B:=h.same (gJ.of_below hb)
theorem ay.mono {a:Option Addr} {B:List an} (h:ay lo w a len cap B) (hl:lo'≤lo):ay lo' w a len cap B :=
 ⟨h.length,h.room,h.big,h.nil,fun x e hp=>⟨(h.lies x e hp).1,(h.lies x e hp).2.1,C8 hl (h.lies x e hp).2.2⟩,fun x e i hi=>by obtain ⟨hw,s,n,c,c0,c1,hL⟩:=h.runs x e i hi;exact ⟨hw,s,n,c,c0,c1,hL.mono hl⟩⟩
theorem ay.form {a:Option Addr} {B:List an} (h:ay lo w a len cap B) (hl:1≤len):∃b off,a=some ⟨b,off,none⟩∧b<w.heap.size:=by
 cases a with
 | none=>have:=h.nil rfl;omega
 | some x =>
  obtain ⟨b,off,d⟩:=x;obtain ⟨h1,h2,_⟩:=h.lies _ rfl (by omega);simp only at h1 h2;subst h2;exact ⟨b,off,rfl,h1⟩
theorem ay.run {B:List an} (h:ay lo w (some ⟨b,off,none⟩) len cap B) (hb:Bl w wr) (k:Nat) (hk:k<len) :
 ∃L m s n c,B[k]?=some (L,m)∧(Lit.int .i64 m).wf=true∧wr.cell? ⟨b,off+k*2,none⟩=some (.slice s n c)∧wr.cell? ⟨b,off+k*2+1,none⟩=some (iT m)∧eW lo wr s n c L:=by
 have d:k<B.length:=by rw [h.length];exact hk
 obtain ⟨hw,s,n,c,c0,c1,hL⟩:=(h.keep hb).runs _ rfl k d;exact ⟨B[k].1,B[k].2,s,n,c,j' d,hw,c0,c1,hL⟩
theorem ay.wfs {a:Option Addr} {B:List an} (h:ay lo w a len cap B):∀p ∈ B,(Lit.int .i64 p.2).wf=true:=by
 intro p hp;obtain ⟨j,d,rfl⟩:=Du hp;obtain ⟨b,off,rfl,_⟩:=h.form (by have:=h.length;omega);exact (h.runs _ rfl j d).1
theorem ut (lo:Nat) (w:World):ay lo w none 0 0 []:=⟨rfl,Cy _,C3 _,fun _=>rfl,(fun x e=>by cases e),(fun x e=>by cases e)⟩
structure cG (lo:Nat) (w:World) (a:Option Addr) (len cap:Nat) (V:List (List an)):Prop where
 length:V.length=len
 room:len≤cap
 big:cap≤maxLen
 nil:a=none→len=0
 lies:∀x,a=some x→0<len→x.block<w.heap.size∧x.spot=none∧lo≤x.block
 levels:∀x,a=some x→∀i (h:i<V.length),∃s n c,w.cell? ⟨x.block,x.off+i,none⟩=some (.slice s n c)∧ay lo w s n c V[i]
theorem cG.same {a:Option Addr} {V:List (List an)} (h:cG lo w a len cap V) (hs:gJ lo w w'):cG lo w' a len cap V where
 length:=h.length
 room:=h.room
 big:=h.big
 nil:=h.nil
 lies:=fun x e hp=>⟨l' (h.lies x e hp).1 hs.1,(h.lies x e hp).2⟩
 levels:=fun x e i hi=>by
  obtain ⟨hx,_,d⟩:=h.lies x e (by have:=h.length;omega)
  obtain ⟨s,n,c,c0,hL⟩:=h.levels x e i hi
  exact ⟨s,n,c,(hs.2 _ _ d hx).trans c0,hL.same hs⟩
theorem cG.keep {a:Option Addr} {V:List (List an)} (h:cG lo w a len cap V) (hb:Bl w w'):cG lo w' a len cap V:=h.same (gJ.of_below hb)
theorem cG.mono {a:Option Addr} {V:List (List an)} (h:cG lo w a len cap V) (hl:lo'≤lo):cG lo' w a len cap V :=
 ⟨h.length,h.room,h.big,h.nil,fun x e hp=>⟨(h.lies x e hp).1,(h.lies x e hp).2.1,C8 hl (h.lies x e hp).2.2⟩,fun x e i hi=>by obtain ⟨s,n,c,c0,hL⟩:=h.levels x e i hi;exact ⟨s,n,c,c0,hL.mono hl⟩⟩
theorem cG.form {a:Option Addr} {V:List (List an)} (h:cG lo w a len cap V) (hl:1≤len):∃b off,a=some ⟨b,off,none⟩∧b<w.heap.size:=by
 cases a with
 | none=>have:=h.nil rfl;omega
 | some x =>
  obtain ⟨b,off,d⟩:=x;obtain ⟨h1,h2,_⟩:=h.lies _ rfl (by omega);simp only at h1 h2;subst h2;exact ⟨b,off,rfl,h1⟩
theorem cG.level {V:List (List an)} (h:cG lo w (some ⟨b,off,none⟩) len cap V) (hb:Bl w wr) (k:Nat) (hk:k<len) :
 ∃B s n c,V[k]?=some B∧wr.cell? ⟨b,off+k,none⟩=some (.slice s n c)∧ay lo wr s n c B:=by
 have d:k<V.length:=by rw [h.length];exact hk
 obtain ⟨s,n,c,c0,hL⟩:=(h.keep hb).levels _ rfl k d;exact ⟨V[k],s,n,c,j' d,c0,hL⟩
structure b6 (lo:Nat) (w:World) (am:Option Addr) (nm cm:Nat) (av:Option Addr) (nv cv:Nat) (ak:Option Addr) (ns cs:Nat) (M:List ac) (V:List (List an)) (S:List Int):Prop where
 mem:eW lo w am nm cm M
 levels:cG lo w av nv cv V
 snaps:bQ lo w ak ns cs S
theorem b6.same {V:List (List an)} (h:b6 lo w am nm cm av nv cv ak ns cs M V S) (hs:gJ lo w w'):b6 lo w' am nm cm av nv cv ak ns cs M V S:=⟨h.mem.same hs,h.levels.same hs,h.snaps.same hs⟩
theorem b6.keep {V:List (List an)} (h:b6 lo w am nm cm av nv cv ak ns cs M V S) (hb:Bl w w'):b6 lo w' am nm cm av nv cv ak ns cs M V S:=h.same (gJ.of_below hb)
end Go.Proofs.YtpobkmjicbobdaaGreat
