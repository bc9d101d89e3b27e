/- Walks. -/
import Derived.WalkKit
import Derived.Lib.Bytealg
import Derived.Lib.Small
import Derived.Lib.Strings
import Derived.WalkSpells
import Derived.WalkLawsBesides
import Derived.Test.YtpobkmjicbobdaaGreatProg
import Derived.ProofKit
import Derived.Lib.SmallJoins
import Derived.Deep.Slices
import Derived.Deep.Strs
import Derived.Deep.SlicePairs
import Derived.OpenShut
namespace Go.Proofs.YtpobkmjicbobdaaGreat
set_option maxRecDepth 100000
set_option maxHeartbeats 40000000
open Go.ChangeShapes Go.Deep Go.Joins Go.RowKit Go.WideShapes
variable {w:World}
abbrev j':=@List.getElem?_eq_getElem.{0}
abbrev E':=@Nat.lt_of_lt_of_le
abbrev F':=@List.getElem?_eq_some_iff.{0}
abbrev GK:=@World.block_lt_of_cell?
abbrev GL:=@Nat.le_refl
abbrev GM:=@World.cell?_setCell_other
abbrev GN:=@Option.some.inj.{0}
abbrev GO:=@List.length_append.{0}
abbrev GP:=@List.mem_of_getElem?.{0}
abbrev GQ:=@Nat.zero_le
abbrev GR:=@List.getElem?_append_right.{0}
abbrev GS:=@List.length_take.{0}
abbrev GT:=@Nat.zero_add
abbrev GU:=@Nat.le_trans
abbrev GV:=@List.take_of_length_le.{0}
abbrev GW:=@List.getElem?_append_left.{0}
abbrev GX:=@List.mem_append.{0}
abbrev GY:=@World.size_alloc
abbrev GZ:=@List.mem_cons.{0}
abbrev G2:=@Bool.and_eq_true
abbrev G3:=@World.cell?_setCell_same'
abbrev G4:=@IntWalk.i64_left
abbrev G5:=@List.mem_singleton.{0}
abbrev G6:=@Go.WideShapes.add_plain
abbrev G7:=@List.length_drop.{0}
abbrev G8:=@World.frozen?_setCell
abbrev G9:=@List.getElem?_set_ne.{0}
abbrev Ha:=@List.mem_cons_self.{0}
abbrev Hb:=@List.pairwise_cons.{0}
abbrev Hc:=@List.take_add_one.{0}
abbrev Hd:=@List.append_assoc.{0}
abbrev He:=@List.mem_cons_of_mem.{0}
abbrev Hf:=@List.all_eq_true.{0}
abbrev Hg:=@IntKind.wrap_i64
abbrev Hh:=@List.take_append_drop.{0}
abbrev Hi:=@World.ownsRow_lit
abbrev Hj:=@List.getElem_mem.{0}
abbrev Hk:=@ByteArray.toList_eq
abbrev Hl:=@List.pairwise_iff_getElem.{0}
abbrev Hm:=@List.getElem_of_mem.{0}
abbrev Hn:=@List.length_cons.{0}
abbrev Ho:=@List.nil_append.{0}
abbrev Hp:=@List.getElem?_set_self.{0}
abbrev Hq:=@List.mem_of_mem_take.{0}
abbrev Hr:=@List.getElem?_of_mem.{0}
abbrev Hs:=@List.not_mem_nil.{0}
abbrev Ht:=@List.cons_append.{0}
abbrev Hu:=@WalkArith.wf_i64
abbrev Hv:=@List.getElem?_take_of_lt.{0}
abbrev Hw:=@List.filter_append.{0}
abbrev Hx:=@Nat.succ_pos
abbrev Hy:=@List.length_eq_zero_iff.{0}
abbrev Hz:=@World.cell?_of_block
abbrev H7:=@Nat.not_lt_zero
abbrev H8:=@List.mem_of_mem_drop.{0}
abbrev H9:=@List.getElem?_drop.{0}
abbrev Ia:=@List.mem_range
abbrev Ib:=@List.mem_map.{0,0}
abbrev Ic:=@Oper.semAt_some
abbrev Id:=@List.length_map.{0,0}
abbrev Ie:=@List.drop_eq_getElem_cons.{0}
abbrev If:=@List.getElem_take.{0}
abbrev Ig:=@List.getElem?_cons_succ.{0}
abbrev Ih:=@List.pairwise_append.{0}
abbrev Ii:=@Array.getElem?_eq_some_iff.{0}
abbrev Ij:=@List.getElem_drop.{0}
abbrev Ik:=@Nat.add_zero
abbrev Il:=@Int.eq_ofNat_of_zero_le
abbrev Im:=@List.filter_eq_nil_iff.{0}
abbrev In:=@Array.getElem?_push_size.{0}
abbrev Io:=@List.length_nil.{0}
abbrev Ip:=@List.flatten_cons.{0}
abbrev Iq:=@List.set_append_right.{0}
abbrev Ir:=@List.size_toArray.{0}
abbrev Is:=@Nat.add_sub_cancel
abbrev It:=@List.Pairwise.sublist.{0}
abbrev Iu:=@Nat.add_sub_cancel_left
abbrev Iv:=@List.append_nil.{0}
abbrev Iw:=@List.map_append.{0,0}
abbrev Ix:=@Option.some.injEq.{0}
abbrev Iy:=@List.getElem?_map.{0,0}
abbrev Iz:=@List.drop_of_length_le.{0}
abbrev IA:=@Array.replicate_succ.{0}
abbrev IB:=@Array.replicate_zero.{0}
abbrev IC:=@List.set_cons_succ.{0}
abbrev ID:=@List.mem_filter.{0}
abbrev IE:=@List.append_toArray.{0}
abbrev IF:=@List.getElem?_cons_zero.{0}
abbrev IG:=@List.drop_drop.{0}
abbrev IH:=@List.map_cons.{0,0}
abbrev II:=@Array.toList_inj.{0}
abbrev IJ:=@List.flatten_append.{0}
abbrev IK:=@List.getElem?_eq_none.{0}
abbrev IL:=@Bool.eq_false_iff
abbrev IM:=@List.push_toArray.{0}
abbrev IN:=@List.filter_cons_of_pos.{0}
abbrev IP:=@ByteArray.ext
abbrev IQ:=@List.set_cons_zero.{0}
abbrev IR:=@List.mem_flatMap.{0,0}
abbrev IS:=@List.mem_flatten.{0}
abbrev IT:=@World.frozen?_of_block
abbrev IU:=@List.Sublist.refl.{0}
abbrev IV:=@Nat.add_assoc
abbrev IW:=@Nat.sub_self
abbrev IX:=@Ne.symm.{1}
abbrev IY:=@List.mem_iff_getElem.{0}
abbrev IZ:=@List.setIfInBounds_toArray.{0}
abbrev I3:=@Nat.zero_mul
abbrev I4:=@List.exists_cons_of_ne_nil.{0}
abbrev I5:=@List.any_eq_false.{0}
abbrev I6:=@List.foldl_append.{0,0}
abbrev I7:=@List.flatMap_cons.{0,0}
abbrev I8:=@List.mem_or_eq_of_mem_set.{0}
abbrev I9:=@List.map_nil.{0,0}
abbrev I':=@Bool.false_eq_true
abbrev Ja:=@Option.isSome_iff_exists.{0}
abbrev Jb:=@List.pairwise_singleton.{0}
abbrev Jc:=@World.frozen?_alloc_new
abbrev Jd:=@Bool.or_eq_true
abbrev Je:=@List.Sublist.append.{0}
abbrev Jf:=@List.mem_reverse.{0}
abbrev Jg:=@List.length_set.{0}
abbrev Jh:=@Bool.not_eq_true'
abbrev Ji:=@List.drop_eq_nil_of_le.{0}
abbrev Jj:=@Nat.lt_of_le_of_lt
abbrev Jk:=@List.getElem?_take.{0}
abbrev Jl:=@List.length_filter_le.{0}
abbrev Jm:=@Bool.and_eq_false_iff
abbrev Jn:=@Value.slice.injEq
abbrev Jo:=@List.drop_sublist.{0}
abbrev Jp:=@List.mem_append_left.{0}
abbrev Jq:=@Nat.lt_irrefl
abbrev Jr:=@List.nodup_cons.{0}
def Eq (p:Prop):Prop:=p
theorem Eq.o {p:Prop} (h:Eq p):p:=h
def GJ (p:Prop):Prop:=p
theorem GJ.o {p:Prop} (h:GJ p):p:=h
abbrev nZ:Value:=.slice none 0 0
abbrev sL (b n c:Nat):Value:=.slice (some ⟨b,0,none⟩) n c
abbrev sO (b o n c:Nat):Value:=.slice (some ⟨b,o,none⟩) n c
abbrev pT (b:Nat):Option Addr:=some ⟨b,0,none⟩
abbrev aD (b o:Nat):Addr:=⟨b,o,none⟩
abbrev iT (q:Int):Value:=.int .i64 q
abbrev Bl (w w':World):Prop:=Below w.heap.size w w'
theorem bZ {o:Obj}:Below w.heap.size w (w.alloc o):=(Below.refl _ _).alloc (GL _) _
theorem jY {B b:Nat} {a:World} (h:Below B a w) (hB:B≤b) (v0 f d v3:Value):Below B a ((((w.setCell ⟨b,0,none⟩ v0).setCell ⟨b,1,none⟩ f).setCell ⟨b,2,none⟩ d).setCell ⟨b,3,none⟩ v3):=(((h.setCell (p:=⟨b,0,none⟩) hB _).setCell (p:=⟨b,1,none⟩) hB _).setCell (p:=⟨b,2,none⟩) hB _).setCell (p:=⟨b,3,none⟩) hB _
theorem az {p:Prop} (h:p):Eq p:=h
theorem aG {α:Type} (a:α):∃x,x=a:=⟨a,rfl⟩
theorem o6 (s:ByteArray) (k:Nat) (h:k<s.size):s.data.toList.take (k+1)=s.data.toList.take k++[s[k]]:=by
 rw [List.take_succ_eq_append_getElem (by simpa using h)];rfl
theorem aj {a b:Bool} (h:a=b):Ending.returned (.bool a)=.returned (.bool b):=by rw [h]
theorem mV {k:IntKind} {a b:Int} (h:a=b):Ending.returned (.int k a)=.returned (.int k b):=by rw [h]
end Go.Proofs.YtpobkmjicbobdaaGreat
namespace Go.Proofs.YtpobkmjicbobdaaGreat
open Go.RowKit
def lZ (b:UInt8):Bool:=(decide (97≤b.toNat) && decide (b.toNat≤122)) || (decide (47≤b.toNat) && decide (b.toNat≤57))
def gZ (s:ByteArray):Bool:=decide (1≤s.size) && (decide (s.size≤8) && s.data.toList.all lZ)
theorem tB {b:UInt8} (h:lZ b=true):(97≤(b.toNat:Int)∧(b.toNat:Int)≤122)∨(47≤(b.toNat:Int)∧(b.toNat:Int)≤57):=by
 simp [lZ] at h;omega
theorem qS {b:UInt8} (h:lZ b=false):(b.toNat:Int)<47∨(57<(b.toNat:Int)∧(b.toNat:Int)<97)∨122<(b.toNat:Int):=by
 simp [lZ] at h;by_cases h1:b.toNat<47
 · exact Or.inl (by omega)
 · by_cases h2:b.toNat<97
   · exact Or.inr (Or.inl (by omega))
   · exact Or.inr (Or.inr (by omega))
theorem iW (s:ByteArray) (k:Nat) (h:k<s.size) (ha:(s.data.toList.take k).all lZ=true) (hb:lZ s[k]=true):(s.data.toList.take (k+1)).all lZ=true:=by
 rw [o6 s k h,List.all_append,ha];simp [hb]
theorem ik (s:ByteArray) (k:Nat) (h:k<s.size) (hb:lZ s[k]=false):gZ s=false:=by
 have:s.data.toList.all lZ=false:=by
  rw [IL];intro d;rw [Hf] at d;have hm:s[k] ∈ s.data.toList:=by
   have:s.data.toList[k]'(by simpa using h)=s[k]:=rfl;rw [← this];exact Hj _
  rw [d _ hm] at hb;cases hb
 unfold gZ;rw [this];simp
theorem yK (s:ByteArray) (h:s.size<1):gZ s=false:=by
 unfold gZ;have:decide (1≤s.size)=false:=decide_eq_false (by omega);rw [this];rfl
theorem Dq (s:ByteArray) (h:8<s.size):gZ s=false:=by
 unfold gZ;have:decide (s.size≤8)=false:=decide_eq_false (by omega);rw [this];simp
theorem po (s:ByteArray) (k:Nat) (hk:s.size≤k) (ha:(s.data.toList.take k).all lZ=true):gZ s=(decide (1≤s.size) && decide (s.size≤8)):=by
 unfold gZ;rw [GV (by simpa using hk)] at ha;simp [ha]
theorem Dr (s:ByteArray) (h1:1≤s.size) (d:s.size≤8) (k:Nat) (hk:s.size≤k) (ha:(s.data.toList.take k).all lZ=true):gZ s=true:=by
 rw [po s k hk ha];simp [h1,d]
theorem Es (n:Nat) (h:1≤(n:Int)):decide ((n:Int)≤8)=(decide (1≤n) && decide (n≤8)):=by
 have h1:decide (1≤n)=true:=decide_eq_true (by omega);rw [h1,Bool.true_and,Bool.eq_iff_iff];simp;omega
theorem Fx (n:Nat) (h:(n:Int)<1):false=(decide (1≤n) && decide (n≤8)):=by
 have h1:decide (1≤n)=false:=decide_eq_false (by omega);rw [h1];rfl
abbrev ac:=ByteArray × Int × Int × ByteArray × Int
abbrev dE:=Bool × ByteArray × Int
def gT (d:Int) (t:ByteArray) (n:Int):Bool :=
 if d=1 then true else if d=2 then decide (t.size=0) && decide (n=0) else if d=3 then decide (t.size=0) else false
def dM (k:ByteArray) (q d:Int) (t:ByteArray) (n:Int):Bool :=
 gZ k && (decide (1≤q) && (decide (q≤100000) && (decide (-1000000≤n) && (decide (n≤1000000) && (decide (t.size≤60) && gT d t n)))))
theorem wQ {k t:ByteArray} {q d n:Int} (h:gZ k=false):dM k q d t n=false:=by simp [dM,h]
theorem zO {k t:ByteArray} {q d n:Int} (h:q<1):dM k q d t n=false:=by
 have:decide (1≤q)=false:=decide_eq_false (by omega);simp [dM,this]
theorem zN {k t:ByteArray} {q d n:Int} (h:100000<q):dM k q d t n=false:=by
 have:decide (q≤100000)=false:=decide_eq_false (by omega);simp [dM,this]
theorem zQ {k t:ByteArray} {q d n:Int} (h:n < -1000000):dM k q d t n=false:=by
 have:decide (-1000000≤n)=false:=decide_eq_false (by omega);simp [dM,this]
theorem zP {k t:ByteArray} {q d n:Int} (h:1000000<n):dM k q d t n=false:=by
 have:decide (n≤1000000)=false:=decide_eq_false (by omega);simp [dM,this]
theorem DQ {k t:ByteArray} {q d n:Int} (h:60<t.size):dM k q d t n=false:=by
 have:decide (t.size≤60)=false:=decide_eq_false (by omega);simp [dM,this]
theorem fQ {k t:ByteArray} {q d n:Int} (h:gZ k=true) (h1:1≤q) (h2:q≤100000) (h3:-1000000≤n) (h4:n≤1000000) (h5:t.size≤60):dM k q d t n=gT d t n:=by
 simp [dM,h,h1,h2,h3,h4,h5]
theorem fV {t:ByteArray} (h:t≠ByteArray.empty):t.size≠0:=by
 intro h0;apply h;apply IP;exact Array.eq_empty_of_size_eq_zero h0
theorem ll {t:ByteArray} (h:t≠ByteArray.empty):¬t.toList=[]:=by
 intro h0;apply h;rw [Hk] at h0;apply IP;exact Array.toList_eq_nil_iff.1 h0
theorem pN {t:ByteArray} {n:Int}:gT 1 t n=true:=by simp [gT]
theorem iO {t:ByteArray} {n:Int}:gT 2 t n=(decide (t.size=0) && decide (n=0)):=by simp [gT]
theorem nd {t:ByteArray} {n:Int}:gT 3 t n=decide (t.size=0):=by simp [gT]
theorem pO {d:Int} {t:ByteArray} {n:Int} (h1:d≠1) (h2:d≠2) (h3:d≠3):gT d t n=false:=by simp [gT,h1,h2,h3]
end Go.Proofs.YtpobkmjicbobdaaGreat
namespace Go.Proofs.YtpobkmjicbobdaaGreat
open Go.RowKit
theorem jo:∀(a b:List UInt8),(Lib.compareBytes a b=-1∧Op.bytesLess a b=true∧a≠b)∨(Lib.compareBytes a b=0∧Op.bytesLess a b=false∧a=b)∨(Lib.compareBytes a b=1∧Op.bytesLess a b=false∧a≠b)
 | [],[]=>Or.inr (Or.inl ⟨rfl,rfl,rfl⟩)
 | [],_ :: _=>Or.inl ⟨rfl,rfl,by simp⟩
 | _ :: _,[]=>Or.inr (Or.inr ⟨rfl,rfl,by simp⟩)
 | x :: a,y :: b=>by
  have f:=jo a b
  unfold Lib.compareBytes Op.bytesLess
  by_cases h1:x<y
  · have d:x≠y:=fun e=>UInt8.lt_irrefl y (e ▸ h1)
    exact Or.inl ⟨by simp [h1],by simp [h1],fun e=>d (by simpa using (List.cons.inj e).1)⟩
  · by_cases h2:y<x
    · have d:x≠y:=fun e=>UInt8.lt_irrefl y (e ▸ h2)
      exact Or.inr (Or.inr ⟨by simp [h1,h2],by simp [h1,d],fun e=>d (by simpa using (List.cons.inj e).1)⟩)
    · have g:=UInt8.le_antisymm (UInt8.not_lt.1 h2) (UInt8.not_lt.1 h1)
      subst g
      rcases f with ⟨p,q,r⟩ | ⟨p,q,r⟩ | ⟨p,q,r⟩
      · exact Or.inl ⟨by simp [h1,p],by simp [q],by simpa using r⟩
      · exact Or.inr (Or.inl ⟨by simp [h1,p],by simp [h1,q],by simpa using r⟩)
      · exact Or.inr (Or.inr ⟨by simp [h1,p],by simp [h1,q],by simpa using r⟩)
def bI (ka:ByteArray) (qa:Int) (kb:ByteArray) (qb:Int):Bool :=
 Op.bytesLess ka.data.toList kb.data.toList || (decide (ka=kb) && decide (qb<qa))
end Go.Proofs.YtpobkmjicbobdaaGreat
namespace Go.Proofs.YtpobkmjicbobdaaGreat
open Go.RowKit
theorem cH:∀a:List UInt8,Op.bytesLess a a=false
 | []=>rfl
 | x :: a=>by
  unfold Op.bytesLess
  have:=cH a
  simp [this]
theorem fi:∀a b:List UInt8,Op.bytesLess a b=true→Op.bytesLess b a=false
 | [],[],h=>by simp [Op.bytesLess] at h
 | [],_ :: _,_=>rfl
 | _ :: _,[],h=>by simp [Op.bytesLess] at h
 | x :: a,y :: b,h=>by
  unfold Op.bytesLess at h ⊢
  have d:=fi a b
  simp only [Jd,decide_eq_true_eq,G2,beq_iff_eq] at h
  rcases h with h | ⟨rfl,h⟩
  · have h1:¬y<x:=fun g=>UInt8.lt_asymm h g
    have h2:¬y=x:=fun g=>UInt8.lt_irrefl x (by rw [g] at h;exact h)
    simp [h1,h2]
  · simp [d h]
theorem kU:∀a b:List UInt8,a≠b→Op.bytesLess a b=true∨Op.bytesLess b a=true
 | [],[],h=>absurd rfl h
 | [],_ :: _,_=>Or.inl rfl
 | _ :: _,[],_=>Or.inr rfl
 | x :: a,y :: b,h=>by
  unfold Op.bytesLess
  by_cases h1:x<y
  · left;simp [h1]
  · by_cases h2:y<x
    · right;simp [h2]
    · have f:x=y:=UInt8.le_antisymm (UInt8.not_lt.1 h2) (UInt8.not_lt.1 h1)
      subst f
      have d:=kU a b (fun e=>h (by rw [e]))
      rcases d with d | d
      · left;simp [d]
      · right;simp [d]
theorem cJ:∀a b c:List UInt8,Op.bytesLess a b=true→Op.bytesLess b c=true→Op.bytesLess a c=true
 | _,_,[],_,h=>by simp [Op.bytesLess] at h
 | [],_,_ :: _,_,_=>rfl
 | _ :: _,[],_ :: _,h,_=>by simp [Op.bytesLess] at h
 | x :: a,y :: b,z :: c,h,k=>by
  unfold Op.bytesLess at h k ⊢
  simp only [Jd,decide_eq_true_eq,G2,beq_iff_eq] at h k ⊢
  rcases h with h | ⟨rfl,h⟩
  · rcases k with k | ⟨rfl,k⟩
    · exact Or.inl (UInt8.lt_trans h k)
    · exact Or.inl h
  · rcases k with k | ⟨rfl,k⟩
    · exact Or.inl k
    · exact Or.inr ⟨rfl,cJ a b c h k⟩
theorem iy (k:ByteArray) (q:Int):bI k q k q=false:=by
 unfold bI;simp [cH]
theorem eD {d f:ByteArray} {g m:Int} (h:bI d g f m=true):Op.bytesLess d.data.toList f.data.toList=true∨(d=f∧m<g):=by
 unfold bI at h;simpa using h
theorem wF {ka f:ByteArray} {d qb:Int} (h:bI ka d f qb=true):bI f qb ka d=false:=by
 rcases eD h with h | ⟨rfl,h⟩
 · have h1:=fi _ _ h;have h2:¬f=ka:=fun e=>by rw [e,cH] at h;cases h
   unfold bI;simp [h1,h2]
 · unfold bI;have:¬d<qb:=by omega
   simp [cH,this]
theorem fJ {f g kc:ByteArray} {qa m d:Int} (h:bI f qa g m=true) (k:bI g m kc d=true):bI f qa kc d=true:=by
 unfold bI;rcases eD h with h | ⟨rfl,h⟩
 · rcases eD k with k | ⟨rfl,k⟩
   · simp [cJ _ _ _ h k]
   · simp [h]
 · rcases eD k with k | ⟨rfl,k⟩
   · simp [k]
   · have:d<qa:=by omega
     simp [this]
theorem tA (f g:ByteArray) (d qb:Int):(bI f d g qb || bI g qb f d)=(decide (¬f=g) || decide (¬d=qb)):=by
 by_cases m:f=g
 · subst m;unfold bI;rw [cH];by_cases h1:qb<d
   · have:¬d=qb:=by omega
     simp [h1,this]
   · by_cases h2:d<qb
     · have:¬d=qb:=by omega
       simp [h2,this]
     · have:d=qb:=by omega
       simp [this]
 · have n:f.data.toList≠g.data.toList:=fun e=>m (IP (II.1 e))
   unfold bI;rcases kU _ _ n with h | h <;> simp [h,m]
end Go.Proofs.YtpobkmjicbobdaaGreat
namespace Go.Proofs.YtpobkmjicbobdaaGreat
open Go.RowKit
def wL (h:Nat) (b:UInt8):Nat:=(31*h+b.toNat) % 65521
def jT (l:List UInt8):Nat:=l.foldl wL 7
def zE (h:Nat):Nat:=2 ^ (h % 16) ||| 2 ^ (h / 16 % 16)
def iM (s:ByteArray):Nat:=zE (jT s.data.toList)
theorem tM (s:ByteArray) (k:Nat) (h:k<s.size):jT (s.data.toList.take (k+1))=wL (jT (s.data.toList.take k)) s[k]:=by
 rw [o6 s k h];simp [jT]
theorem gE {a:Nat} (h:a<16):2 ^ a<65536:=by
 have:2 ^ a<2 ^ 16:=Nat.pow_lt_pow_right (by omega) h;exact this
theorem jd {a b:Nat} (ha:a<65536) (hb:b<65536):a ||| b<65536:=Nat.or_lt_two_pow (n:=16) ha hb
theorem Df (h:Nat):zE h<65536:=jd (gE (Nat.mod_lt _ (by omega))) (gE (Nat.mod_lt _ (by omega)))
theorem qN (s:ByteArray):iM s<65536:=Df _
theorem EF (a b i:Nat):(a ||| b) / 2 ^ i=(a ||| b) / 2 ^ (i+1)*2+(if a / 2 ^ i % 2=1∨b / 2 ^ i % 2=1 then 1 else 0):=by
 have h1:(a ||| b).testBit i=(a.testBit i || b.testBit i):=Nat.testBit_or ..;rw [Nat.testBit_eq_decide_div_mod_eq,Nat.testBit_eq_decide_div_mod_eq,Nat.testBit_eq_decide_div_mod_eq] at h1;have h2:(a ||| b) / 2 ^ (i+1)=(a ||| b) / 2 ^ i / 2:=by rw [Nat.pow_succ,Nat.div_div_eq_div_mul]
 rw [h2];by_cases h3:a / 2 ^ i % 2=1∨b / 2 ^ i % 2=1
 · rw [if_pos h3];have:(a ||| b) / 2 ^ i % 2=1:=by
    have:decide ((a ||| b) / 2 ^ i % 2=1)=true:=by rw [h1];simpa using h3
    exact of_decide_eq_true this
   omega
 · rw [if_neg h3];have:¬(a ||| b) / 2 ^ i % 2=1:=by
    have:decide ((a ||| b) / 2 ^ i % 2=1)=false:=by
     rw [h1];have h4:¬a / 2 ^ i % 2=1:=fun e=>h3 (Or.inl e)
     have h5:¬b / 2 ^ i % 2=1:=fun e=>h3 (Or.inr e)
     simp [h4,h5]
    exact of_decide_eq_false this
   omega
def dL (L:List ac):Nat:=L.foldl (fun m e=>m ||| iM e.1) 0
theorem qL {L:List ac} {k:Nat} {e:ac} (h:L[k]?=some e):dL (L.take (k+1))=dL (L.take k) ||| iM e.1:=by
 rw [Hc,h];simp [dL]
theorem qM (L:List ac):dL L<65536:=by
 have:∀(L:List ac) (m:Nat),m<65536→L.foldl (fun m e=>m ||| iM e.1) m<65536:=by
  intro L;induction L with
  | nil=>intro m h;exact h
  | cons a r d=>intro m h;exact d _ (jd h (qN _))
 exact this L 0 (by omega)
def mt (L:List ac) (j:Nat):Bool :=
 match L[j]? with
 | none=>true
 | some e=>dM e.1 e.2.1 e.2.2.1 e.2.2.2.1 e.2.2.2.2 && (match j with | 0=>true | i+1=>match L[i]? with | none=>true | some d=>bI d.1 d.2.1 e.1 e.2.1)
def aI (L:List ac):Bool:=(List.range L.length).all (mt L)
def jR (L:List ac) (k:Nat):Prop:=∀j,j<k→mt L j=true
theorem mT {L:List ac} {k:Nat} (h:jR L k) (hk:L.length≤k):aI L=true:=by
 unfold aI;rw [Hf];intro j d;exact h j (by have:=Ia.1 d;omega)
theorem mU {L:List ac} {k:Nat} (hk:k<L.length) (h:mt L k=false):aI L=false:=by
 rw [IL];intro h1;unfold aI at h1;rw [Hf] at h1;rw [h1 k (Ia.2 hk)] at h;cases h
theorem jA {L:List ac} {k:Nat} (h:jR L k) (hk:mt L k=true):jR L (k+1):=by
 intro j d;by_cases e:j=k
 · rw [e];exact hk
 · exact h j (by omega)
theorem lE {L:List ac} {e:ac} (h:L[0]?=some e):mt L 0=dM e.1 e.2.1 e.2.2.1 e.2.2.2.1 e.2.2.2.2:=by
 unfold mt;rw [h];simp
theorem je {L:List ac} {i:Nat} {d e:ac} (h:L[i+1]?=some e) (g:L[i]?=some d):mt L (i+1)=(dM e.1 e.2.1 e.2.2.1 e.2.2.2.1 e.2.2.2.2 && bI d.1 d.2.1 e.1 e.2.1):=by
 unfold mt;simp only [h,g]
theorem qG {L:List ac} {k:Nat} {e:ac} (h:L[k]?=some e) (g:dM e.1 e.2.1 e.2.2.1 e.2.2.2.1 e.2.2.2.2=false):mt L k=false:=by
 unfold mt;rw [h];simp [g]
def cU (L:List ac) (m:Int):Bool:=decide (1≤L.length) && (decide (L.length≤150) && (aI L && decide (m=dL L)))
theorem vI {L:List ac} {m:Int} (h:L.length<1):cU L m=false:=by
 have:decide (1≤L.length)=false:=decide_eq_false (by omega);simp [cU,this]
theorem tm {L:List ac} {m:Int} (h:150<L.length):cU L m=false:=by
 have:decide (L.length≤150)=false:=decide_eq_false (by omega);simp [cU,this]
theorem qx {L:List ac} {m:Int} (h:aI L=false):cU L m=false:=by simp [cU,h]
theorem tk {L:List ac} {m:Int} (h1:1≤L.length) (h2:L.length≤150) (h3:aI L=true):cU L m=decide (m=dL L):=by
 simp [cU,h1,h2,h3]
end Go.Proofs.YtpobkmjicbobdaaGreat
namespace Go.Proofs.YtpobkmjicbobdaaGreat
open Go.RowKit
theorem vL {L:List ac} (h:aI L=true) (j:Nat) (d:j<L.length):mt L j=true:=by
 unfold aI at h;rw [Hf] at h;exact h j (Ia.2 d)
theorem eo {L:List ac} (h:aI L=true) {j:Nat} {e:ac} (d:L[j]?=some e):dM e.1 e.2.1 e.2.2.1 e.2.2.2.1 e.2.2.2.2=true:=by
 have h1:=vL h j (F'.1 d).1;cases g:dM e.1 e.2.1 e.2.2.1 e.2.2.2.1 e.2.2.2.2 with
 | true=>rfl
 | false=>rw [qG d g] at h1;cases h1
theorem x9 {L:List ac} (h:aI L=true) {j:Nat} {d e:ac} (hd:L[j]?=some d) (f:L[j+1]?=some e):bI d.1 d.2.1 e.1 e.2.1=true:=by
 have h1:=vL h (j+1) (F'.1 f).1;rw [je f hd] at h1;simp at h1;exact h1.2
theorem fF {L:List ac} (h:aI L=true) {i j:Nat} (n:i<j) {d e:ac} (hd:L[i]?=some d) (f:L[j]?=some e):bI d.1 d.2.1 e.1 e.2.1=true:=by
 induction j generalizing e with
 | zero=>omega
 | succ j g =>
  have m:j<L.length:=by have:=(F'.1 f).1;omega
  have hg:=j' m;have hn:=x9 h hg f;by_cases e1:i=j
  · subst e1;rw [hg] at hd;cases hd;exact hn
  · exact fJ (g (by omega) hg) hn
theorem nH {k t:ByteArray} {q d n:Int} (h:dM k q d t n=true):1≤q∧q≤100000:=by
 simp [dM] at h;exact ⟨h.2.1,h.2.2.1⟩
theorem bE {L:List ac} {m:Int} (h:cU L m=true):1≤L.length∧L.length≤150∧aI L=true∧m=dL L:=by
 simpa [cU] using h
def bw (L:List ac) (key:ByteArray) (seq:Int):List ac:=L.filter (fun e=>decide (e.1=key) && decide (e.2.1≤seq))
theorem uO {L:List ac} (h:aI L=true) {key:ByteArray} {seq:Int} {i j:Nat} (hi:i≤L.length) (o:j≤L.length)
 (i1:∀p e,L[p]?=some e→p<i→bI e.1 e.2.1 key seq=true) (i2:∀p e,L[p]?=some e→i≤p→bI e.1 e.2.1 key seq=false)
 (j1:∀p e,L[p]?=some e→p<j→bI e.1 e.2.1 key 0=true) (j2:∀p e,L[p]?=some e→j≤p→bI e.1 e.2.1 key 0=false) :
 i≤j∧bw L key seq=(L.drop i).take (j - i):=by
 have f:i≤j:=by
  by_cases h1:i≤j
  · exact h1
  · exfalso
    have m:j<L.length:=by omega
    have g:=j' m;have a:=i1 j _ g (by omega);have b:=j2 j _ g (GL _);have c:=nH (eo h g);rcases eD a with a | ⟨a,n⟩
    · unfold bI at b;rw [a] at b;simp at b
    · unfold bI at b;have:decide ((0:Int)<L[j].2.1)=true:=decide_eq_true (by omega);rw [this] at b;simp [a] at b
 refine ⟨f,?_⟩;have split:L=L.take i++((L.drop i).take (j - i)++L.drop j):=by
  have:(L.drop i).drop (j - i)=L.drop j:=by rw [IG];congr 1;omega
  rw [← this,Hh,Hh]
 unfold bw;have f1:(L.take i).filter (fun e=>decide (e.1=key) && decide (e.2.1≤seq))=[]:=by
  rw [Im];intro e d;obtain ⟨p,hp,rfl⟩:=Hm d;simp at hp;have g:L[p]?=some L[p]:=j' (by omega);have a:=i1 p _ g (by omega);simp only [If];rcases eD a with a | ⟨a,n⟩
  · have:¬L[p].1=key:=fun e=>by rw [e,cH] at a;cases a
    simp [this]
  · have:¬L[p].2.1≤seq:=by omega
    simp [this]
 have f3:(L.drop j).filter (fun e=>decide (e.1=key) && decide (e.2.1≤seq))=[]:=by
  rw [Im];intro e d;obtain ⟨p,hp,rfl⟩:=Hm d;simp at hp;have g:L[j+p]?=some (L[j+p]'(by omega)):=j' (by omega);have b:=j2 (j+p) _ g (by omega);have c:=nH (eo h g);simp only [Ij];have:¬(L[j+p]'(by omega)).1=key:=fun e=>by
   unfold bI at b;have:decide ((0:Int)<(L[j+p]'(by omega)).2.1)=true:=decide_eq_true (by omega);rw [this,e,cH] at b;simp at b
  simp [this]
 have f2:((L.drop i).take (j - i)).filter (fun e=>decide (e.1=key) && decide (e.2.1≤seq))=(L.drop i).take (j - i):=by
  rw [List.filter_eq_self];intro e d;obtain ⟨p,hp,rfl⟩:=Hm d;simp at hp;have hq:i+p<L.length:=by omega
  have g:L[i+p]?=some (L[i+p]'hq):=j' hq;have a:=i2 (i+p) _ g (by omega);have b:=j1 (i+p) _ g (by omega);simp only [If,Ij];have hk:(L[i+p]'hq).1=key:=by
   rcases eD b with b | ⟨b,_⟩
   · exfalso
     unfold bI at a;rw [b] at a;simp at a
   · exact b
  have hs:(L[i+p]'hq).2.1≤seq:=by
   unfold bI at a;rw [hk,cH] at a;simp at a;exact a
  simp [hk,hs]
 rw [split,Hw,Hw,f1,f2,f3];rw [← split];simp
theorem sP {L:List ac} {key:ByteArray} {seq:Int} {k:Nat} {e:ac} (h:L[k]?=some e) (h1:e.1=key) (h2:e.2.1≤seq):bw (L.take (k+1)) key seq=bw (L.take k) key seq++[e]:=by
 rw [Hc,h];simp [bw,h1,h2]
theorem nz {L:List ac} {key:ByteArray} {seq:Int} {k:Nat} {e:ac} (h:L[k]?=some e) (h1:¬(e.1=key∧e.2.1≤seq)):bw (L.take (k+1)) key seq=bw (L.take k) key seq:=by
 rw [Hc,h];simp only [bw,Hw,Option.toList_some];have:List.filter (fun e=>decide (e.1=key) && decide (e.2.1≤seq)) [e]=[]:=by
  rw [Im];intro x hx;simp only [G5] at hx;subst hx;simp only [G2,decide_eq_true_eq];exact h1
 rw [this,Iv]
theorem nE (L:List ac) (key:ByteArray) (seq:Int):(bw L key seq).length≤L.length:=Jl _ _
theorem rG {L:List ac} {key:ByteArray} {seq:Int} {e:ac} (h:e ∈ bw L key seq):e ∈ L:=(ID.1 h).1
end Go.Proofs.YtpobkmjicbobdaaGreat
namespace Go.Proofs.YtpobkmjicbobdaaGreat
set_option maxRecDepth 100000
set_option maxHeartbeats 40000000
open Go.ChangeShapes Go.Deep Go.Joins Go.RowKit Go.WideShapes
variable {L M:List ac} {S:List Int} {W w w' wr:World} {ak am av:Option Addr} {b cap cm cs cv k len lo lo' nm ns nv off:Nat} {e:ac} {q s:Int}
theorem xe {d:World} (hb:Bl W d):(∀b o,b<W.heap.size→d.cell? ⟨b,o,none⟩=W.cell? ⟨b,o,none⟩)∧(∀b o,b<W.heap.size→d.frozen? ⟨b,o,none⟩=W.frozen? ⟨b,o,none⟩) :=
 ⟨fun b o h=>hb.cell (p:=⟨b,o,none⟩) h,fun b o h=>hb.frozen (p:=⟨b,o,none⟩) h⟩
def d9 (e:ac):Prop:=e.1.size≤maxLen∧(Lit.int .i64 e.2.1).wf=true∧(Lit.int .i64 e.2.2.1).wf=true∧e.2.2.2.1.size≤maxLen∧(Lit.int .i64 e.2.2.2.2).wf=true
def li (w:World) (b o:Nat) (e:ac):Prop:=w.cell? ⟨b,o,none⟩=some (.string e.1)∧w.cell? ⟨b,o+1,none⟩=some (iT e.2.1)∧w.cell? ⟨b,o+2,none⟩=some (iT e.2.2.1)∧w.cell? ⟨b,o+3,none⟩=some (.string e.2.2.2.1)∧w.cell? ⟨b,o+4,none⟩=some (iT e.2.2.2.2)
theorem li.moved {o:Nat} (h:li w b o e) (hc:∀o,w'.cell? ⟨b,o,none⟩=w.cell? ⟨b,o,none⟩):li w' b o e :=
 ⟨(hc _).trans h.1,(hc _).trans h.2.1,(hc _).trans h.2.2.1,(hc _).trans h.2.2.2.1,(hc _).trans h.2.2.2.2⟩
structure ah (w:World) (a:Option Addr) (len cap:Nat) (L:List ac):Prop where
 length:L.length=len
 room:len≤cap
 big:cap≤maxLen
 ents:∀e ∈ L,d9 e
 nil:a=none→len=0
 lies:∀x,a=some x→0<len→x.block<w.heap.size∧x.spot=none
 cells:∀x,a=some x→∀i (h:i<L.length),li w x.block (x.off+i*5) L[i]
theorem ah.moved {a:Option Addr} (h:ah w a len cap L) (hs:w.heap.size≤w'.heap.size) (hc:∀x,a=some x→0<len→∀o,w'.cell? ⟨x.block,o,none⟩=w.cell? ⟨x.block,o,none⟩):ah w' a len cap L where
 length:=h.length
 room:=h.room
 big:=h.big
 ents:=h.ents
 nil:=h.nil
 lies:=fun x e hp=>⟨E' (h.lies x e hp).1 hs,(h.lies x e hp).2⟩
 cells:=fun x e i hi=>(h.cells x e i hi).moved (hc x e (by have:=h.length;omega))
theorem ah.below {B:Nat} {a:Option Addr} (h:ah w a len cap L) (hb:Below B w w') (hB:∀x,a=some x→0<len→x.block<B):ah w' a len cap L :=
 h.moved hb.size (fun x e hp o=>hb.cell (p:=⟨x.block,o,none⟩) (hB x e hp))
theorem ah.keep {a:Option Addr} (h:ah w a len cap L) (hb:Bl w w'):ah w' a len cap L:=h.below hb (fun x e hp=>(h.lies x e hp).1)
theorem ah.setCell {a:Option Addr} (h:ah w a len cap L) (p:Addr) (u:Value) (hp:∀x,a=some x→0<len→x.block≠p.block):ah (w.setCell p u) a len cap L :=
 h.moved (by simp [World.setCell]) (fun x e hl o=>Hz (by rw [Below.heap_setCell _ _ _ _ (hp x e hl)]))
theorem ah.ent {B:Nat} (h:ah w (some ⟨b,off,none⟩) len cap L) (hb:Below B w wr) (hB:b<B) (k:Nat) (hk:k<len) :
 ∃s q d t n,L[k]?=some (s,q,d,t,n)∧d9 (s,q,d,t,n)∧wr.cell? ⟨b,off+k*5,none⟩=some (.string s)∧wr.cell? ⟨b,off+k*5+1,none⟩=some (iT q)∧wr.cell? ⟨b,off+k*5+2,none⟩=some (iT d)∧wr.cell? ⟨b,off+k*5+3,none⟩=some (.string t)∧wr.cell? ⟨b,off+k*5+4,none⟩=some (iT n):=by
 have f:k<L.length:=by rw [h.length];exact hk
 obtain ⟨c0,c1,g,c3,c4⟩:=(h.cells _ rfl k f).moved (fun o=>hb.cell (p:=⟨b,o,none⟩) hB);exact ⟨L[k].1,L[k].2.1,L[k].2.2.1,L[k].2.2.2.1,L[k].2.2.2.2,j' f,h.ents _ (Hj f),c0,c1,g,c3,c4⟩
theorem ah.form {a:Option Addr} (h:ah w a len cap L) (hl:1≤len):∃b off,a=some ⟨b,off,none⟩∧b<w.heap.size:=by
 cases a with
 | none=>have:=h.nil rfl;omega
 | some x =>
  obtain ⟨b,off,d⟩:=x;obtain ⟨h1,h2⟩:=h.lies _ rfl (by omega);simp only at h1 h2;subst h2;exact ⟨b,off,rfl,h1⟩
theorem Tryz.infoInt:(Tryz.prog.info? 3).map (fun i=>(i.zero,i.size,i.bytes))=some (some (iT 0),1,8):=by kernel_rfl
def eF (lo:Nat) (w w':World):Prop:=w.heap.size≤w'.heap.size∧∀b o,lo≤b→b<w.heap.size→w'.cell? ⟨b,o,none⟩=w.cell? ⟨b,o,none⟩
theorem eF.of_below (hb:Bl w w'):eF lo w w':=⟨hb.size,fun b o _ h=>hb.cell (p:=⟨b,o,none⟩) h⟩
theorem eF.of_set (p:Addr) (u:Value) (h:p.block<lo):eF lo w (w.setCell p u) :=
 ⟨by simp [World.setCell],fun b o hb _=>Hz (by rw [Below.heap_setCell _ _ _ _ (by simp only;omega)])⟩
theorem eF.trans {w'':World} (h:eF lo w w') (h':eF lo w' w''):eF lo w w'' :=
 ⟨GU h.1 h'.1,fun b o hb hl=>(h'.2 b o hb (E' hl h.1)).trans (h.2 b o hb hl)⟩
structure bJ (lo:Nat) (w:World) (a:Option Addr) (len cap:Nat) (S:List Int):Prop where
 length:S.length=len
 room:len≤cap
 big:cap≤maxLen
 wfs:∀q ∈ S,(Lit.int .i64 q).wf=true
 nil:a=none→len=0
 lies:∀x,a=some x→0<len→x.block<w.heap.size∧x.spot=none∧lo≤x.block
 cells:∀x,a=some x→∀i (h:i<S.length),w.cell? ⟨x.block,x.off+i,none⟩=some (iT S[i])
theorem bJ.same {a:Option Addr} (h:bJ lo w a len cap S) (hs:eF lo w w'):bJ lo w' a len cap S where
 length:=h.length
 room:=h.room
 big:=h.big
 wfs:=h.wfs
 nil:=h.nil
 lies:=fun x e hp=>⟨E' (h.lies x e hp).1 hs.1,(h.lies x e hp).2⟩
 cells:=fun x e i hi=>by
  obtain ⟨hx,_,d⟩:=h.lies x e (by have:=h.length;omega)
  exact (hs.2 _ _ d hx).trans (h.cells x e i hi)
theorem bJ.keep {a:Option Addr} (h:bJ lo w a len cap S) (hb:Bl w w'):bJ lo w' a len cap S:=h.same (eF.of_below hb)
theorem bJ.lower {a:Option Addr} (h:bJ lo w a len cap S) (hl:lo'≤lo):bJ lo' w a len cap S :=
 ⟨h.length,h.room,h.big,h.wfs,h.nil,fun x e hp=>⟨(h.lies x e hp).1,(h.lies x e hp).2.1,GU hl (h.lies x e hp).2.2⟩,h.cells⟩
theorem bJ.form {a:Option Addr} (h:bJ lo w a len cap S) (hl:1≤len):∃b off,a=some ⟨b,off,none⟩∧b<w.heap.size:=by
 cases a with
 | none=>have:=h.nil rfl;omega
 | some x =>
  obtain ⟨b,off,d⟩:=x;obtain ⟨h1,h2,_⟩:=h.lies _ rfl (by omega);simp only at h1 h2;subst h2;exact ⟨b,off,rfl,h1⟩
theorem bJ.num (h:bJ lo w (some ⟨b,off,none⟩) len cap S) (hb:Bl w wr) (k:Nat) (hk:k<len) :
 ∃q,S[k]?=some q∧(Lit.int .i64 q).wf=true∧wr.cell? ⟨b,off+k,none⟩=some (iT q):=by
 have d:k<S.length:=by rw [h.length];exact hk
 exact ⟨S[k],j' d,h.wfs _ (Hj d),(h.keep hb).cells _ rfl k d⟩
theorem C6 {a:Addr} (h:a.spot=none) (j:Nat):a.add j=⟨a.block,a.off+j,none⟩:=by
 obtain ⟨b,o,d⟩:=a;simp only at h;subst h;exact add_plain _ _ _
theorem open_ints {H:Type} {enc:TypeId × Value→H} {base C:Nat} {v:Value} {x:DataW H × List MemPlace} {held:Bool}
 (hf:DataW.trod enc Tryz.prog W base (fun _=>true) held C 24 [v]=some x) :
 ∃(a:Option Addr) (len cap:Nat) (S:List Int),v=.slice a len cap∧bJ 0 W a len cap S:=by
 have r5:Tryz.prog.cellsOf 3=1:=by kernel_rfl
 rcases Deep.open_slice Tryz.underlying24 hf with ⟨d,_⟩ | ⟨a,len,cap,F,n,D,I,d,hb,hl,hm,r,_,hx⟩
 · simp at d;subst d;exact ⟨none,0,0,[],rfl,⟨rfl,GL _,GQ _,by simp,fun _=>rfl,(fun x e=>by cases e),(fun x e=>by cases e)⟩⟩
 · simp at d;subst d;simp at r;rw [r5] at hx;have each:∀i,i<F→∃q:Int,(Lit.int .i64 q).wf=true∧W.cell? (a.add i)=some (iT q):=by
    intro i hi;obtain ⟨t,E,B⟩:=hx i hi;obtain ⟨_,hlen,o⟩:=World.cells?_some E;match t,hlen with
    | [u0],_ =>
     have u:=o 0 (by omega);rw [Deep.add_add] at u;obtain ⟨q,e0,_,A⟩:=DataW.trod_int Tryz.underlying3 B;simp at e0;subst e0;exact ⟨q,A,by simpa using u⟩
   obtain ⟨f,g⟩:=Deep.choose_lt each;have m:0<len→a.spot=none:=fun hp=>by
    obtain ⟨_,c0⟩:=g 0 (by omega);simpa [Addr.add] using World.cell?_spot c0
   refine ⟨some a,len,cap,(List.range len).map f,rfl,⟨by simp,hl,hm,?_,(fun e=>by cases e),?_,?_⟩⟩
   · intro q hq;obtain ⟨i,hi,rfl⟩:=Ib.1 hq;exact (g i (by have:=Ia.1 hi;omega)).1
   · rintro x e hp;cases e;refine ⟨?_,m hp,GQ _⟩;obtain ⟨_,c0⟩:=g 0 (by omega);have:=GK _ _ c0;simpa [Addr.add] using this
   · rintro x e i hi;cases e;simp at hi;obtain ⟨_,y⟩:=g i (by omega);rw [C6 (m (by omega))] at y;simp only [List.getElem_map,List.getElem_range];exact y
abbrev af:=List ac × Int
def fu (lo:Nat) (w:World) (a:Option Addr) (len cap:Nat) (L:List ac):Prop:=ah w a len cap L∧∀x,a=some x→0<len→lo≤x.block
theorem fu.same {a:Option Addr} (h:fu lo w a len cap L) (hs:eF lo w w'):fu lo w' a len cap L :=
 ⟨h.1.moved hs.1 (fun x e hp _=>hs.2 _ _ (h.2 x e hp) (h.1.lies x e hp).1),h.2⟩
theorem fu.mono {a:Option Addr} (h:fu lo w a len cap L) (hl:lo'≤lo):fu lo' w a len cap L:=⟨h.1,fun x e hp=>GU hl (h.2 x e hp)⟩
structure aw (lo:Nat) (w:World) (a:Option Addr) (len cap:Nat) (B:List af):Prop where
 length:B.length=len
 room:len≤cap
 big:cap≤maxLen
 nil:a=none→len=0
 lies:∀x,a=some x→0<len→x.block<w.heap.size∧x.spot=none∧lo≤x.block
 runs:∀x,a=some x→∀i (h:i<B.length),(Lit.int .i64 B[i].2).wf=true∧∃s n c,w.cell? ⟨x.block,x.off+i*2,none⟩=some (.slice s n c)∧w.cell? ⟨x.block,x.off+i*2+1,none⟩=some (iT B[i].2)∧fu lo w s n c B[i].1
theorem aw.same {a:Option Addr} {B:List af} (h:aw lo w a len cap B) (hs:eF lo w w'):aw lo w' a len cap B where
 length:=h.length
 room:=h.room
 big:=h.big
 nil:=h.nil
 lies:=fun x e hp=>⟨E' (h.lies x e hp).1 hs.1,(h.lies x e hp).2⟩
 runs:=fun x e i hi=>by
  obtain ⟨hx,_,d⟩:=h.lies x e (by have:=h.length;omega)
  obtain ⟨hw,s,n,c,c0,c1,hL⟩:=h.runs x e i hi
  exact ⟨hw,s,n,c,(hs.2 _ _ d hx).trans c0,(hs.2 _ _ d hx).trans c1,hL.same hs⟩
theorem aw.keep {a:Option Addr} {B:List af} (h:aw lo w a len cap B) (hb:Bl w w'):aw lo w' a len cap B:=h.same (eF.of_below hb)
theorem aw.mono {a:Option Addr} {B:List af} (h:aw lo w a len cap B) (hl:lo'≤lo):aw lo' w a len cap B :=
 ⟨h.length,h.room,h.big,h.nil,fun x e hp=>⟨(h.lies x e hp).1,(h.lies x e hp).2.1,GU hl (h.lies x e hp).2.2⟩,fun x e i hi=>by obtain ⟨hw,s,n,c,c0,c1,hL⟩:=h.runs x e i hi;exact ⟨hw,s,n,c,c0,c1,hL.mono hl⟩⟩
theorem aw.form {a:Option Addr} {B:List af} (h:aw lo w a len cap B) (hl:1≤len):∃b off,a=some ⟨b,off,none⟩∧b<w.heap.size:=by
 cases a with
 | none=>have:=h.nil rfl;omega
 | some x =>
  obtain ⟨b,off,d⟩:=x;obtain ⟨h1,h2,_⟩:=h.lies _ rfl (by omega);simp only at h1 h2;subst h2;exact ⟨b,off,rfl,h1⟩
theorem aw.run {B:List af} (h:aw lo w (some ⟨b,off,none⟩) len cap B) (hb:Bl w wr) (k:Nat) (hk:k<len) :
 ∃L m s n c,B[k]?=some (L,m)∧(Lit.int .i64 m).wf=true∧wr.cell? ⟨b,off+k*2,none⟩=some (.slice s n c)∧wr.cell? ⟨b,off+k*2+1,none⟩=some (iT m)∧fu lo wr s n c L:=by
 have d:k<B.length:=by rw [h.length];exact hk
 obtain ⟨hw,s,n,c,c0,c1,hL⟩:=(h.keep hb).runs _ rfl k d;exact ⟨B[k].1,B[k].2,s,n,c,j' d,hw,c0,c1,hL⟩
theorem aw.wfs {a:Option Addr} {B:List af} (h:aw lo w a len cap B):∀p ∈ B,(Lit.int .i64 p.2).wf=true:=by
 intro p hp;obtain ⟨j,d,rfl⟩:=Hm hp;obtain ⟨b,off,rfl,_⟩:=h.form (by have:=h.length;omega);exact (h.runs _ rfl j d).1
theorem xY (lo:Nat) (w:World):aw lo w none 0 0 []:=⟨rfl,GL _,GQ _,fun _=>rfl,(fun x e=>by cases e),(fun x e=>by cases e)⟩
structure cF (lo:Nat) (w:World) (a:Option Addr) (len cap:Nat) (V:List (List af)):Prop where
 length:V.length=len
 room:len≤cap
 big:cap≤maxLen
 nil:a=none→len=0
 lies:∀x,a=some x→0<len→x.block<w.heap.size∧x.spot=none∧lo≤x.block
 levels:∀x,a=some x→∀i (h:i<V.length),∃s n c,w.cell? ⟨x.block,x.off+i,none⟩=some (.slice s n c)∧aw lo w s n c V[i]
theorem cF.same {a:Option Addr} {V:List (List af)} (h:cF lo w a len cap V) (hs:eF lo w w'):cF lo w' a len cap V where
 length:=h.length
 room:=h.room
 big:=h.big
 nil:=h.nil
 lies:=fun x e hp=>⟨E' (h.lies x e hp).1 hs.1,(h.lies x e hp).2⟩
 levels:=fun x e i hi=>by
  obtain ⟨hx,_,d⟩:=h.lies x e (by have:=h.length;omega)
  obtain ⟨s,n,c,c0,hL⟩:=h.levels x e i hi
  exact ⟨s,n,c,(hs.2 _ _ d hx).trans c0,hL.same hs⟩
theorem cF.keep {a:Option Addr} {V:List (List af)} (h:cF lo w a len cap V) (hb:Bl w w'):cF lo w' a len cap V:=h.same (eF.of_below hb)
theorem cF.mono {a:Option Addr} {V:List (List af)} (h:cF lo w a len cap V) (hl:lo'≤lo):cF lo' w a len cap V :=
 ⟨h.length,h.room,h.big,h.nil,fun x e hp=>⟨(h.lies x e hp).1,(h.lies x e hp).2.1,GU hl (h.lies x e hp).2.2⟩,fun x e i hi=>by obtain ⟨s,n,c,c0,hL⟩:=h.levels x e i hi;exact ⟨s,n,c,c0,hL.mono hl⟩⟩
theorem cF.form {a:Option Addr} {V:List (List af)} (h:cF lo w a len cap V) (hl:1≤len):∃b off,a=some ⟨b,off,none⟩∧b<w.heap.size:=by
 cases a with
 | none=>have:=h.nil rfl;omega
 | some x =>
  obtain ⟨b,off,d⟩:=x;obtain ⟨h1,h2,_⟩:=h.lies _ rfl (by omega);simp only at h1 h2;subst h2;exact ⟨b,off,rfl,h1⟩
theorem cF.level {V:List (List af)} (h:cF lo w (some ⟨b,off,none⟩) len cap V) (hb:Bl w wr) (k:Nat) (hk:k<len) :
 ∃B s n c,V[k]?=some B∧wr.cell? ⟨b,off+k,none⟩=some (.slice s n c)∧aw lo wr s n c B:=by
 have d:k<V.length:=by rw [h.length];exact hk
 obtain ⟨s,n,c,c0,hL⟩:=(h.keep hb).levels _ rfl k d;exact ⟨V[k],s,n,c,j' d,c0,hL⟩
structure aZ (lo:Nat) (w:World) (am:Option Addr) (nm cm:Nat) (av:Option Addr) (nv cv:Nat) (ak:Option Addr) (ns cs:Nat) (M:List ac) (V:List (List af)) (S:List Int):Prop where
 mem:fu lo w am nm cm M
 levels:cF lo w av nv cv V
 snaps:bJ lo w ak ns cs S
theorem aZ.same {V:List (List af)} (h:aZ lo w am nm cm av nv cv ak ns cs M V S) (hs:eF lo w w'):aZ lo w' am nm cm av nv cv ak ns cs M V S:=⟨h.mem.same hs,h.levels.same hs,h.snaps.same hs⟩
theorem aZ.keep {V:List (List af)} (h:aZ lo w am nm cm av nv cv ak ns cs M V S) (hb:Bl w w'):aZ lo w' am nm cm av nv cv ak ns cs M V S:=h.same (eF.of_below hb)
def b6 (M:List ac) (q:Int):Bool:=M.all (fun e=>decide (e.2.1≤q))
theorem ve (h:b6 (M.take k) q=true) (hk:M[k]?=some e) (d:e.2.1≤q):b6 (M.take (k+1)) q=true:=by
 unfold b6 at h ⊢;rw [Hc,hk];simp only [Option.toList,List.all_append,h,List.all_cons,List.all_nil,Bool.and_true,Bool.true_and];exact decide_eq_true d
theorem Ae (hk:M[k]?=some e) (d:¬e.2.1≤q):b6 M q=false:=by
 unfold b6;rw [IL];intro h;rw [Hf] at h;exact d (of_decide_eq_true (h e (GP hk)))
def dl (S:List Int) (q:Int) (i:Nat):Bool :=
 match S[i]? with
 | none=>true
 | some s=>decide (0≤s) && (decide (s≤q) && (match i with | 0=>true | j+1=>match S[j]? with | none=>true | some p=>decide (p<s)))
def lS (S:List Int) (q:Int) (k:Nat):Prop:=∀j,j<k→dl S q j=true
def cG (S:List Int) (q:Int):Bool:=decide (S.length≤4) && (List.range S.length).all (dl S q)
theorem xV (h:4<S.length):cG S q=false:=by
 unfold cG;rw [decide_eq_false (by omega)];rfl
theorem ja (hk:k<S.length) (h:dl S q k=false):cG S q=false:=by
 unfold cG;rw [Jm];right
 rw [IL];intro h1;rw [Hf] at h1;rw [h1 k (Ia.2 hk)] at h;cases h
theorem tg (h:lS S q S.length):cG S q=decide (S.length≤4):=by
 unfold cG;have:(List.range S.length).all (dl S q)=true:=by
  rw [Hf];intro j d;exact h j (Ia.1 d)
 rw [this,Bool.and_true]
theorem jw (h:lS S q k) (hk:dl S q k=true):lS S q (k+1):=by
 intro j d;by_cases e:j=k
 · subst e;exact hk
 · exact h j (by omega)
theorem oo (h:S[0]?=some s):dl S q 0=(decide (0≤s) && decide (s≤q)):=by
 unfold dl;rw [h];simp
theorem lp {p:Int} {j:Nat} (h:S[j+1]?=some s) (hp:S[j]?=some p):dl S q (j+1)=(decide (0≤s) && (decide (s≤q) && decide (p<s))):=by
 unfold dl;simp only [h,hp]
theorem vF (h:S[k]?=some s) (hs:s<0):dl S q k=false:=by
 unfold dl;rw [h];simp only;rw [decide_eq_false (by omega)];rfl
theorem th (h:S[k]?=some s) (hs:q<s):dl S q k=false:=by
 unfold dl;rw [h];simp only;rw [decide_eq_false (p:=s≤q) (by omega)];simp
theorem fl (s:ByteArray) (w:World) (hs:s.size≤maxLen) :
 Calls Tryz.prog 199 #[.string s] w fun e w'=>e=.returned (.bool (gZ s))∧w'=w:=by
 unfold maxLen at hs;go_enter Tryz.func199,Tryz.ntmps199
 go_wp2;go_loop [3] (fun i=>∃k:Nat,k≤s.size∧i=iT k∧(s.data.toList.take k).all lZ=true) (fun i=>s.size - (intOf i).toNat)
 case atStart=>exact ⟨0,GQ _,rfl,rfl⟩
 case round =>
  obtain ⟨k,hk,rfl,g⟩:=hrel;have r:=az g;by_cases d:k<s.size
  · cases hb:lZ s[k] with
    | true =>
     have h3:=tB hb;have f:=az hb;rcases h3 with ⟨m,n⟩ | ⟨m,n⟩
     · go_wp2;go_round
       case rel=>exact ⟨k+1,by omega,by go_num,iW s k d r.o f.o⟩
       case measure=>simp [intOf];omega
     · go_wp2;go_round
       case rel=>exact ⟨k+1,by omega,by go_num,iW s k d r.o f.o⟩
       case measure=>simp [intOf];omega
    | false =>
     have h3:=qS hb;have f:=az hb;rcases h3 with h3 | ⟨h3,h4⟩ | h3
     · go_wp2;go_ret;exact ⟨aj (ik s k d f.o).symm,rfl⟩
     · go_wp2;go_ret;exact ⟨aj (ik s k d f.o).symm,rfl⟩
     · go_wp2;go_ret;exact ⟨aj (ik s k d f.o).symm,rfl⟩
  · go_wp2;all_goals
     go_ret;refine ⟨aj ?_,rfl⟩;rw [po s k (by omega) r.o];first | exact Es _ (by omega) | exact Fx _ (by omega)
theorem AT (b:Int) (w:World) (h:(97≤b∧b≤122)∨(47≤b∧b≤57)):Calls Tryz.prog 160 #[.int .u8 b] w fun e w'=>e=.returned (.bool true)∧w'=w:=by
 rcases h with ⟨h1,h2⟩ | ⟨h1,h2⟩
 · go_enter Tryz.func160,Tryz.ntmps160
   go_wp2;all_goals
    go_ret;exact ⟨rfl,rfl⟩
 · by_cases h3:b=47
   · subst h3;go_enter Tryz.func160,Tryz.ntmps160
     go_wp2;all_goals
      go_ret;exact ⟨rfl,rfl⟩
   · have h4:48≤b:=by omega
     go_enter Tryz.func160,Tryz.ntmps160
     go_wp2;all_goals
      go_ret;exact ⟨rfl,rfl⟩
theorem Ds (b:Int) (w:World) (h:b<47∨(57<b∧b<97)∨122<b):Calls Tryz.prog 160 #[.int .u8 b] w fun e w'=>e=.returned (.bool false)∧w'=w:=by
 have hd:(b == 47)=false:=by rw [beq_eq_false_iff_ne];omega
 have d:¬b=47:=by omega
 rcases h with h | ⟨h,h'⟩ | h
 rotate_left
 rotate_left
 all_goals
  go_enter Tryz.func160,Tryz.ntmps160
  go_wp2;all_goals
   go_ret;exact ⟨aj (by first | rfl | (simp;omega) | simp),rfl⟩
theorem jI (s:ByteArray) (w:World) (hs:s.size≤maxLen) :
 Calls Tryz.prog 99 #[.string s] w fun e w'=>e=.returned (.bool (gZ s))∧w'=w:=by
 unfold maxLen at hs;by_cases h1:s.size<1
 · go_enter Tryz.func99,Tryz.ntmps99
   go_wp2;go_ret;exact ⟨aj (yK s h1).symm,rfl⟩
 by_cases h4:8<s.size
 · go_enter Tryz.func99,Tryz.ntmps99
   go_wp2;go_ret;exact ⟨aj (Dq s h4).symm,rfl⟩
 go_enter Tryz.func99,Tryz.ntmps99
 go_wp2;go_loop [14] (fun i=>∃k:Nat,k≤s.size∧i=iT k∧(s.data.toList.take k).all lZ=true) (fun i=>s.size - (intOf i).toNat)
 case atStart=>exact ⟨0,GQ _,rfl,rfl⟩
 case round =>
  obtain ⟨k,hk,rfl,f⟩:=hrel;have n:=az f;by_cases d:k<s.size
  · cases hb:lZ s[k] with
    | true =>
     have h3:=tB hb;have g:=az h3;have m:=az hb;go_wp2_with (go_at_call 160;refine (AT _ _ g.o).mono ?_;rintro e w' ⟨rfl,rfl⟩)
     go_round
     case rel=>exact ⟨k+1,by omega,by go_num,iW s k d n.o m.o⟩
     case measure=>simp [intOf];omega
    | false =>
     have h3:=qS hb;have g:=az h3;have m:=az hb;go_wp2_with (go_at_call 160;refine (Ds _ _ g.o).mono ?_;rintro e w' ⟨rfl,rfl⟩)
     go_ret;exact ⟨aj (ik s k d m.o).symm,rfl⟩
  · go_wp2;go_ret;exact ⟨aj (Dr s (by omega) (by omega) k (by omega) n.o).symm,rfl⟩
end Go.Proofs.YtpobkmjicbobdaaGreat
