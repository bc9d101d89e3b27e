/- Walks. -/
import Derived.WalkKit
import Derived.Lib.Bytealg
import Derived.Lib.Small
import Derived.Lib.Strings
import Derived.WalkSpells
import Derived.WalkLawsBesides
import Derived.Test.YtpobkmjicbobdaaGreatProg
import Derived.ProofKit
import Derived.Lib.SmallJoins
import Derived.Deep.Slices
import Derived.Deep.Strs
import Derived.Deep.SlicePairs
import Derived.OpenShut
namespace Go.Proofs.YtpobkmjicbobdaaGreat
set_option maxRecDepth 100000
set_option maxHeartbeats 40000000
open Go.ChangeShapes Go.Deep Go.Joins Go.RowKit Go.WideShapes
variable {w:World}
abbrev j':=@List.getElem?_eq_getElem.{0}
abbrev E':=@Nat.lt_of_lt_of_le
abbrev F':=@List.getElem?_eq_some_iff.{0}
abbrev Gf:=@World.block_lt_of_cell?
abbrev Gg:=@Nat.le_refl
abbrev Gh:=@World.cell?_setCell_other
abbrev Gi:=@Option.some.inj.{0}
abbrev Gj:=@List.length_append.{0}
abbrev Gk:=@List.mem_of_getElem?.{0}
abbrev Gl:=@Nat.zero_le
abbrev Gm:=@List.getElem?_append_right.{0}
abbrev Gn:=@List.length_take.{0}
abbrev Gp:=@Nat.zero_add
abbrev Gq:=@Nat.le_trans
abbrev Gr:=@List.take_of_length_le.{0}
abbrev Gt:=@List.getElem?_append_left.{0}
abbrev Gu:=@World.size_alloc
abbrev Gv:=@Go.WideShapes.add_plain
abbrev Gw:=@List.mem_append.{0}
abbrev Gx:=@Bool.and_eq_true
abbrev Gy:=@List.length_drop.{0}
abbrev Gz:=@List.mem_cons.{0}
abbrev GB:=@IntWalk.i64_left
abbrev GC:=@List.mem_singleton.{0}
abbrev GD:=@World.cell?_setCell_same'
abbrev GE:=@List.getElem?_set_ne.{0}
abbrev GF:=@World.frozen?_setCell
abbrev GG:=@List.pairwise_cons.{0}
abbrev GH:=@List.take_add_one.{0}
abbrev GI:=@List.mem_cons_self.{0}
abbrev GJ:=@List.append_assoc.{0}
abbrev GK:=@List.take_append_drop.{0}
abbrev GL:=@List.all_eq_true.{0}
abbrev GM:=@List.mem_cons_of_mem.{0}
abbrev GN:=@IntKind.wrap_i64
abbrev GO:=@List.pairwise_iff_getElem.{0}
abbrev GP:=@World.ownsRow_lit
abbrev GQ:=@List.getElem_mem.{0}
abbrev GR:=@List.length_cons.{0}
abbrev GS:=@ByteArray.toList_eq
abbrev GT:=@List.getElem_of_mem.{0}
abbrev GU:=@List.nil_append.{0}
abbrev GV:=@List.getElem?_set_self.{0}
abbrev GW:=@List.getElem?_of_mem.{0}
abbrev GX:=@List.mem_of_mem_take.{0}
abbrev GY:=@List.cons_append.{0}
abbrev GZ:=@List.not_mem_nil.{0}
abbrev G2:=@Nat.not_lt_zero
abbrev G3:=@List.getElem?_take_of_lt.{0}
abbrev G4:=@Nat.succ_pos
abbrev G5:=@WalkArith.wf_i64
abbrev G6:=@List.length_eq_zero_iff.{0}
abbrev G7:=@List.mem_range
abbrev G8:=@World.cell?_of_block
abbrev G9:=@List.mem_map.{0,0}
abbrev Ha:=@List.mem_of_mem_drop.{0}
abbrev Hb:=@List.getElem?_drop.{0}
abbrev Hc:=@Oper.semAt_some
abbrev Hd:=@List.length_map.{0,0}
abbrev He:=@List.drop_eq_getElem_cons.{0}
abbrev Hf:=@List.getElem_take.{0}
abbrev Hg:=@List.getElem?_cons_succ.{0}
abbrev Hh:=@List.pairwise_append.{0}
abbrev Hi:=@Array.getElem?_eq_some_iff.{0}
abbrev Hj:=@List.getElem_drop.{0}
abbrev Hk:=@Int.eq_ofNat_of_zero_le
abbrev Hl:=@Nat.add_zero
abbrev Hm:=@Array.getElem?_push_size.{0}
abbrev Hn:=@Nat.sub_self
abbrev Ho:=@List.filter_append.{0}
abbrev Hp:=@List.length_nil.{0}
abbrev Hq:=@List.flatten_cons.{0}
abbrev Hr:=@List.set_append_right.{0}
abbrev Hs:=@List.drop_of_length_le.{0}
abbrev Ht:=@List.map_append.{0,0}
abbrev Hu:=@List.size_toArray.{0}
abbrev Hv:=@Nat.add_sub_cancel
abbrev Hw:=@List.Pairwise.sublist.{0}
abbrev Hx:=@Nat.add_sub_cancel_left
abbrev Hy:=@Option.some.injEq.{0}
abbrev Hz:=@List.filter_eq_nil_iff.{0}
abbrev H7:=@Array.replicate_succ.{0}
abbrev H8:=@Array.replicate_zero.{0}
abbrev H9:=@List.set_cons_succ.{0}
abbrev Ia:=@List.flatten_append.{0}
abbrev Ib:=@List.append_toArray.{0}
abbrev Ic:=@List.getElem?_cons_zero.{0}
abbrev Id:=@List.getElem?_map.{0,0}
abbrev Ie:=@List.drop_drop.{0}
abbrev If:=@List.map_cons.{0,0}
abbrev Ig:=@List.getElem?_eq_none.{0}
abbrev Ih:=@Bool.eq_false_iff
abbrev Ii:=@List.push_toArray.{0}
abbrev Ij:=@List.filter_cons_of_pos.{0}
abbrev Ik:=@List.set_cons_zero.{0}
abbrev Il:=@Array.toList_inj.{0}
abbrev Im:=@List.mem_flatten.{0}
abbrev In:=@List.Sublist.refl.{0}
abbrev Io:=@ByteArray.ext
abbrev Ip:=@Nat.add_assoc
abbrev Iq:=@List.append_nil.{0}
abbrev Ir:=@List.mem_iff_getElem.{0}
abbrev Is:=@List.setIfInBounds_toArray.{0}
abbrev It:=@Nat.zero_mul
abbrev Iu:=@List.exists_cons_of_ne_nil.{0}
abbrev Iv:=@World.frozen?_of_block
abbrev Iw:=@Ne.symm.{1}
abbrev Ix:=@List.any_eq_false.{0}
abbrev Iy:=@List.mem_filter.{0}
abbrev Iz:=@List.mem_or_eq_of_mem_set.{0}
abbrev IA:=@List.mem_flatMap.{0,0}
abbrev IB:=@List.map_nil.{0,0}
abbrev IC:=@Option.isSome_iff_exists.{0}
abbrev ID:=@List.pairwise_singleton.{0}
abbrev IE:=@Bool.or_eq_true
abbrev IF:=@List.Sublist.append.{0}
abbrev IG:=@List.mem_reverse.{0}
abbrev IH:=@List.length_set.{0}
abbrev II:=@Bool.not_eq_true'
abbrev IJ:=@World.frozen?_alloc_new
abbrev IK:=@List.drop_eq_nil_of_le.{0}
abbrev IL:=@Nat.lt_of_le_of_lt
abbrev IM:=@Bool.false_eq_true
abbrev IN:=@List.getElem?_take.{0}
abbrev IP:=@List.length_filter_le.{0}
abbrev IQ:=@Bool.and_eq_false_iff
abbrev IR:=@Value.slice.injEq
abbrev IS:=@List.flatMap_cons.{0,0}
abbrev IT:=@List.drop_sublist.{0}
abbrev IU:=@List.mem_append_left.{0}
abbrev IV:=@Nat.mul_one
abbrev IW:=@List.filter_eq_self.{0}
abbrev IY:=@Nat.lt_irrefl
abbrev IZ:=@List.nodup_cons.{0}
def Eq (p:Prop):Prop:=p
theorem Eq.o {p:Prop} (h:Eq p):p:=h
def GA (p:Prop):Prop:=p
theorem GA.o {p:Prop} (h:GA p):p:=h
abbrev nZ:Value:=.slice none 0 0
abbrev sL (b n c:Nat):Value:=.slice (some ⟨b,0,none⟩) n c
abbrev sO (b o n c:Nat):Value:=.slice (some ⟨b,o,none⟩) n c
abbrev pT (b:Nat):Option Addr:=some ⟨b,0,none⟩
abbrev aD (b o:Nat):Addr:=⟨b,o,none⟩
abbrev iT (q:Int):Value:=.int .i64 q
abbrev Bl (w w':World):Prop:=Below w.heap.size w w'
theorem bZ {o:Obj}:Below w.heap.size w (w.alloc o):=(Below.refl _ _).alloc (Gg _) _
theorem lD {B b:Nat} {a:World} (h:Below B a w) (hB:B≤b) (v0 f d v3:Value):Below B a ((((w.setCell ⟨b,0,none⟩ v0).setCell ⟨b,1,none⟩ f).setCell ⟨b,2,none⟩ d).setCell ⟨b,3,none⟩ v3):=(((h.setCell (p:=⟨b,0,none⟩) hB _).setCell (p:=⟨b,1,none⟩) hB _).setCell (p:=⟨b,2,none⟩) hB _).setCell (p:=⟨b,3,none⟩) hB _
theorem az {p:Prop} (h:p):Eq p:=h
theorem aF {α:Type} (a:α):∃x,x=a:=⟨a,rfl⟩
theorem oF (s:ByteArray) (k:Nat) (h:k<s.size):s.data.toList.take (k+1)=s.data.toList.take k++[s[k]]:=by
 rw [List.take_succ_eq_append_getElem (by simpa using h)];rfl
theorem ag {a b:Bool} (h:a=b):Ending.returned (.bool a)=.returned (.bool b):=by rw [h]
theorem mz {k:IntKind} {a b:Int} (h:a=b):Ending.returned (.int k a)=.returned (.int k b):=by rw [h]
end Go.Proofs.YtpobkmjicbobdaaGreat
namespace Go.Proofs.YtpobkmjicbobdaaGreat
open Go.RowKit
def lF (b:UInt8):Bool:=(decide (97≤b.toNat) && decide (b.toNat≤122)) || (decide (47≤b.toNat) && decide (b.toNat≤57))
def fW (s:ByteArray):Bool:=decide (1≤s.size) && (decide (s.size≤8) && s.data.toList.all lF)
theorem sU {b:UInt8} (h:lF b=true):(97≤(b.toNat:Int)∧(b.toNat:Int)≤122)∨(47≤(b.toNat:Int)∧(b.toNat:Int)≤57):=by
 simp [lF] at h;omega
theorem qs {b:UInt8} (h:lF b=false):(b.toNat:Int)<47∨(57<(b.toNat:Int)∧(b.toNat:Int)<97)∨122<(b.toNat:Int):=by
 simp [lF] at h;by_cases h1:b.toNat<47
 · exact Or.inl (by omega)
 · by_cases h2:b.toNat<97
   · exact Or.inr (Or.inl (by omega))
   · exact Or.inr (Or.inr (by omega))
theorem iH (s:ByteArray) (k:Nat) (h:k<s.size) (ha:(s.data.toList.take k).all lF=true) (hb:lF s[k]=true):(s.data.toList.take (k+1)).all lF=true:=by
 rw [oF s k h,List.all_append,ha];simp [hb]
theorem ia (s:ByteArray) (k:Nat) (h:k<s.size) (hb:lF s[k]=false):fW s=false:=by
 have:s.data.toList.all lF=false:=by
  rw [Ih];intro d;rw [GL] at d;have hm:s[k] ∈ s.data.toList:=by
   have:s.data.toList[k]'(by simpa using h)=s[k]:=rfl;rw [← this];exact GQ _
  rw [d _ hm] at hb;cases hb
 unfold fW;rw [this];simp
theorem yd (s:ByteArray) (h:s.size<1):fW s=false:=by
 unfold fW;have:decide (1≤s.size)=false:=decide_eq_false (by omega);rw [this];rfl
theorem Cy (s:ByteArray) (h:8<s.size):fW s=false:=by
 unfold fW;have:decide (s.size≤8)=false:=decide_eq_false (by omega);rw [this];simp
theorem oT (s:ByteArray) (k:Nat) (hk:s.size≤k) (ha:(s.data.toList.take k).all lF=true):fW s=(decide (1≤s.size) && decide (s.size≤8)):=by
 unfold fW;rw [Gr (by simpa using hk)] at ha;simp [ha]
theorem Cz (s:ByteArray) (h1:1≤s.size) (d:s.size≤8) (k:Nat) (hk:s.size≤k) (ha:(s.data.toList.take k).all lF=true):fW s=true:=by
 rw [oT s k hk ha];simp [h1,d]
theorem DZ (n:Nat) (h:1≤(n:Int)):decide ((n:Int)≤8)=(decide (1≤n) && decide (n≤8)):=by
 have h1:decide (1≤n)=true:=decide_eq_true (by omega);rw [h1,Bool.true_and,Bool.eq_iff_iff];simp;omega
theorem E5 (n:Nat) (h:(n:Int)<1):false=(decide (1≤n) && decide (n≤8)):=by
 have h1:decide (1≤n)=false:=decide_eq_false (by omega);rw [h1];rfl
abbrev ac:=ByteArray × Int × Int × ByteArray × Int
abbrev fp:=Bool × ByteArray × Int
def fS (d:Int) (t:ByteArray) (n:Int):Bool :=
 if d=1 then true else if d=2 then decide (t.size=0) && decide (n=0) else if d=3 then decide (t.size=0) else false
def dq (k:ByteArray) (q d:Int) (t:ByteArray) (n:Int):Bool :=
 fW k && (decide (1≤q) && (decide (q≤100000) && (decide (-1000000≤n) && (decide (n≤1000000) && (decide (t.size≤60) && fS d t n)))))
theorem vS {k t:ByteArray} {q d n:Int} (h:fW k=false):dq k q d t n=false:=by simp [dq,h]
theorem zi {k t:ByteArray} {q d n:Int} (h:q<1):dq k q d t n=false:=by
 have:decide (1≤q)=false:=decide_eq_false (by omega);simp [dq,this]
theorem zh {k t:ByteArray} {q d n:Int} (h:100000<q):dq k q d t n=false:=by
 have:decide (q≤100000)=false:=decide_eq_false (by omega);simp [dq,this]
theorem zl {k t:ByteArray} {q d n:Int} (h:n < -1000000):dq k q d t n=false:=by
 have:decide (-1000000≤n)=false:=decide_eq_false (by omega);simp [dq,this]
theorem zj {k t:ByteArray} {q d n:Int} (h:1000000<n):dq k q d t n=false:=by
 have:decide (n≤1000000)=false:=decide_eq_false (by omega);simp [dq,this]
theorem Dr {k t:ByteArray} {q d n:Int} (h:60<t.size):dq k q d t n=false:=by
 have:decide (t.size≤60)=false:=decide_eq_false (by omega);simp [dq,this]
theorem eE {k t:ByteArray} {q d n:Int} (h:fW k=true) (h1:1≤q) (h2:q≤100000) (h3:-1000000≤n) (h4:n≤1000000) (h5:t.size≤60):dq k q d t n=fS d t n:=by
 simp [dq,h,h1,h2,h3,h4,h5]
theorem fO {t:ByteArray} (h:t≠ByteArray.empty):t.size≠0:=by
 intro h0;apply h;apply Io;exact Array.eq_empty_of_size_eq_zero h0
theorem kH {t:ByteArray} (h:t≠ByteArray.empty):¬t.toList=[]:=by
 intro h0;apply h;rw [GS] at h0;apply Io;exact Array.toList_eq_nil_iff.1 h0
theorem pp {t:ByteArray} {n:Int}:fS 1 t n=true:=by simp [fS]
theorem iB {t:ByteArray} {n:Int}:fS 2 t n=(decide (t.size=0) && decide (n=0)):=by simp [fS]
theorem mE {t:ByteArray} {n:Int}:fS 3 t n=decide (t.size=0):=by simp [fS]
theorem pq {d:Int} {t:ByteArray} {n:Int} (h1:d≠1) (h2:d≠2) (h3:d≠3):fS d t n=false:=by simp [fS,h1,h2,h3]
end Go.Proofs.YtpobkmjicbobdaaGreat
namespace Go.Proofs.YtpobkmjicbobdaaGreat
open Go.RowKit
theorem iY:∀(a b:List UInt8),(Lib.compareBytes a b=-1∧Op.bytesLess a b=true∧a≠b)∨(Lib.compareBytes a b=0∧Op.bytesLess a b=false∧a=b)∨(Lib.compareBytes a b=1∧Op.bytesLess a b=false∧a≠b)
 | [],[]=>Or.inr (Or.inl ⟨rfl,rfl,rfl⟩)
 | [],_ :: _=>Or.inl ⟨rfl,rfl,by simp⟩
 | _ :: _,[]=>Or.inr (Or.inr ⟨rfl,rfl,by simp⟩)
 | x :: a,y :: b=>by
  have f:=iY a b
  unfold Lib.compareBytes Op.bytesLess
  by_cases h1:x<y
  · have d:x≠y:=fun e=>UInt8.lt_irrefl y (e ▸ h1)
    exact Or.inl ⟨by simp [h1],by simp [h1],fun e=>d (by simpa using (List.cons.inj e).1)⟩
  · by_cases h2:y<x
    · have d:x≠y:=fun e=>UInt8.lt_irrefl y (e ▸ h2)
      exact Or.inr (Or.inr ⟨by simp [h1,h2],by simp [h1,d],fun e=>d (by simpa using (List.cons.inj e).1)⟩)
    · have g:=UInt8.le_antisymm (UInt8.not_lt.1 h2) (UInt8.not_lt.1 h1)
      subst g
      rcases f with ⟨p,q,r⟩ | ⟨p,q,r⟩ | ⟨p,q,r⟩
      · exact Or.inl ⟨by simp [h1,p],by simp [q],by simpa using r⟩
      · exact Or.inr (Or.inl ⟨by simp [h1,p],by simp [h1,q],by simpa using r⟩)
      · exact Or.inr (Or.inr ⟨by simp [h1,p],by simp [h1,q],by simpa using r⟩)
def bF (ka:ByteArray) (qa:Int) (kb:ByteArray) (qb:Int):Bool :=
 Op.bytesLess ka.data.toList kb.data.toList || (decide (ka=kb) && decide (qb<qa))
end Go.Proofs.YtpobkmjicbobdaaGreat
namespace Go.Proofs.YtpobkmjicbobdaaGreat
open Go.RowKit
theorem cE:∀a:List UInt8,Op.bytesLess a a=false
 | []=>rfl
 | x :: a=>by
  unfold Op.bytesLess
  have:=cE a
  simp [this]
theorem eY:∀a b:List UInt8,Op.bytesLess a b=true→Op.bytesLess b a=false
 | [],[],h=>by simp [Op.bytesLess] at h
 | [],_ :: _,_=>rfl
 | _ :: _,[],h=>by simp [Op.bytesLess] at h
 | x :: a,y :: b,h=>by
  unfold Op.bytesLess at h ⊢
  have d:=eY a b
  simp only [IE,decide_eq_true_eq,Gx,beq_iff_eq] at h
  rcases h with h | ⟨rfl,h⟩
  · have h1:¬y<x:=fun g=>UInt8.lt_asymm h g
    have h2:¬y=x:=fun g=>UInt8.lt_irrefl x (by rw [g] at h;exact h)
    simp [h1,h2]
  · simp [d h]
theorem jY:∀a b:List UInt8,a≠b→Op.bytesLess a b=true∨Op.bytesLess b a=true
 | [],[],h=>absurd rfl h
 | [],_ :: _,_=>Or.inl rfl
 | _ :: _,[],_=>Or.inr rfl
 | x :: a,y :: b,h=>by
  unfold Op.bytesLess
  by_cases h1:x<y
  · left;simp [h1]
  · by_cases h2:y<x
    · right;simp [h2]
    · have f:x=y:=UInt8.le_antisymm (UInt8.not_lt.1 h2) (UInt8.not_lt.1 h1)
      subst f
      have d:=jY a b (fun e=>h (by rw [e]))
      rcases d with d | d
      · left;simp [d]
      · right;simp [d]
theorem cG:∀a b c:List UInt8,Op.bytesLess a b=true→Op.bytesLess b c=true→Op.bytesLess a c=true
 | _,_,[],_,h=>by simp [Op.bytesLess] at h
 | [],_,_ :: _,_,_=>rfl
 | _ :: _,[],_ :: _,h,_=>by simp [Op.bytesLess] at h
 | x :: a,y :: b,z :: c,h,k=>by
  unfold Op.bytesLess at h k ⊢
  simp only [IE,decide_eq_true_eq,Gx,beq_iff_eq] at h k ⊢
  rcases h with h | ⟨rfl,h⟩
  · rcases k with k | ⟨rfl,k⟩
    · exact Or.inl (UInt8.lt_trans h k)
    · exact Or.inl h
  · rcases k with k | ⟨rfl,k⟩
    · exact Or.inl k
    · exact Or.inr ⟨rfl,cG a b c h k⟩
theorem il (k:ByteArray) (q:Int):bF k q k q=false:=by
 unfold bF;simp [cE]
theorem ef {d f:ByteArray} {g m:Int} (h:bF d g f m=true):Op.bytesLess d.data.toList f.data.toList=true∨(d=f∧m<g):=by
 unfold bF at h;simpa using h
theorem vD {ka f:ByteArray} {d qb:Int} (h:bF ka d f qb=true):bF f qb ka d=false:=by
 rcases ef h with h | ⟨rfl,h⟩
 · have h1:=eY _ _ h;have h2:¬f=ka:=fun e=>by rw [e,cE] at h;cases h
   unfold bF;simp [h1,h2]
 · unfold bF;have:¬d<qb:=by omega
   simp [cE,this]
theorem fC {f g kc:ByteArray} {qa m d:Int} (h:bF f qa g m=true) (k:bF g m kc d=true):bF f qa kc d=true:=by
 unfold bF;rcases ef h with h | ⟨rfl,h⟩
 · rcases ef k with k | ⟨rfl,k⟩
   · simp [cG _ _ _ h k]
   · simp [h]
 · rcases ef k with k | ⟨rfl,k⟩
   · simp [k]
   · have:d<qa:=by omega
     simp [this]
theorem sT (f g:ByteArray) (d qb:Int):(bF f d g qb || bF g qb f d)=(decide (¬f=g) || decide (¬d=qb)):=by
 by_cases m:f=g
 · subst m;unfold bF;rw [cE];by_cases h1:qb<d
   · have:¬d=qb:=by omega
     simp [h1,this]
   · by_cases h2:d<qb
     · have:¬d=qb:=by omega
       simp [h2,this]
     · have:d=qb:=by omega
       simp [this]
 · have n:f.data.toList≠g.data.toList:=fun e=>m (Io (Il.1 e))
   unfold bF;rcases jY _ _ n with h | h <;> simp [h,m]
end Go.Proofs.YtpobkmjicbobdaaGreat
namespace Go.Proofs.YtpobkmjicbobdaaGreat
open Go.RowKit
def vM (h:Nat) (b:UInt8):Nat:=(31*h+b.toNat) % 65521
def jz (l:List UInt8):Nat:=l.foldl vM 7
def yW (h:Nat):Nat:=2 ^ (h % 16) ||| 2 ^ (h / 16 % 16)
def iz (s:ByteArray):Nat:=yW (jz s.data.toList)
theorem tf (s:ByteArray) (k:Nat) (h:k<s.size):jz (s.data.toList.take (k+1))=vM (jz (s.data.toList.take k)) s[k]:=by
 rw [oF s k h];simp [jz]
theorem f9 {a:Nat} (h:a<16):2 ^ a<65536:=by
 have:2 ^ a<2 ^ 16:=Nat.pow_lt_pow_right (by omega) h;exact this
theorem iP {a b:Nat} (ha:a<65536) (hb:b<65536):a ||| b<65536:=Nat.or_lt_two_pow (n:=16) ha hb
theorem Cm (h:Nat):yW h<65536:=iP (f9 (Nat.mod_lt _ (by omega))) (f9 (Nat.mod_lt _ (by omega)))
theorem qm (s:ByteArray):iz s<65536:=Cm _
theorem Ed (a b i:Nat):(a ||| b) / 2 ^ i=(a ||| b) / 2 ^ (i+1)*2+(if a / 2 ^ i % 2=1∨b / 2 ^ i % 2=1 then 1 else 0):=by
 have h1:(a ||| b).testBit i=(a.testBit i || b.testBit i):=Nat.testBit_or ..;rw [Nat.testBit_eq_decide_div_mod_eq,Nat.testBit_eq_decide_div_mod_eq,Nat.testBit_eq_decide_div_mod_eq] at h1;have h2:(a ||| b) / 2 ^ (i+1)=(a ||| b) / 2 ^ i / 2:=by rw [Nat.pow_succ,Nat.div_div_eq_div_mul]
 rw [h2];by_cases h3:a / 2 ^ i % 2=1∨b / 2 ^ i % 2=1
 · rw [if_pos h3];have:(a ||| b) / 2 ^ i % 2=1:=by
    have:decide ((a ||| b) / 2 ^ i % 2=1)=true:=by rw [h1];simpa using h3
    exact of_decide_eq_true this
   omega
 · rw [if_neg h3];have:¬(a ||| b) / 2 ^ i % 2=1:=by
    have:decide ((a ||| b) / 2 ^ i % 2=1)=false:=by
     rw [h1];have h4:¬a / 2 ^ i % 2=1:=fun e=>h3 (Or.inl e)
     have h5:¬b / 2 ^ i % 2=1:=fun e=>h3 (Or.inr e)
     simp [h4,h5]
    exact of_decide_eq_false this
   omega
def dG (L:List ac):Nat:=L.foldl (fun m e=>m ||| iz e.1) 0
theorem qj {L:List ac} {k:Nat} {e:ac} (h:L[k]?=some e):dG (L.take (k+1))=dG (L.take k) ||| iz e.1:=by
 rw [GH,h];simp [dG]
theorem ql (L:List ac):dG L<65536:=by
 have:∀(L:List ac) (m:Nat),m<65536→L.foldl (fun m e=>m ||| iz e.1) m<65536:=by
  intro L;induction L with
  | nil=>intro m h;exact h
  | cons a r d=>intro m h;exact d _ (iP h (qm _))
 exact this L 0 (by omega)
def lU (L:List ac) (j:Nat):Bool :=
 match L[j]? with
 | none=>true
 | some e=>dq e.1 e.2.1 e.2.2.1 e.2.2.2.1 e.2.2.2.2 && (match j with | 0=>true | i+1=>match L[i]? with | none=>true | some d=>bF d.1 d.2.1 e.1 e.2.1)
def aI (L:List ac):Bool:=(List.range L.length).all (lU L)
def jx (L:List ac) (k:Nat):Prop:=∀j,j<k→lU L j=true
theorem mw {L:List ac} {k:Nat} (h:jx L k) (hk:L.length≤k):aI L=true:=by
 unfold aI;rw [GL];intro j d;exact h j (by have:=G7.1 d;omega)
theorem my {L:List ac} {k:Nat} (hk:k<L.length) (h:lU L k=false):aI L=false:=by
 rw [Ih];intro h1;unfold aI at h1;rw [GL] at h1;rw [h1 k (G7.2 hk)] at h;cases h
theorem jk {L:List ac} {k:Nat} (h:jx L k) (hk:lU L k=true):jx L (k+1):=by
 intro j d;by_cases e:j=k
 · rw [e];exact hk
 · exact h j (by omega)
theorem lc {L:List ac} {e:ac} (h:L[0]?=some e):lU L 0=dq e.1 e.2.1 e.2.2.1 e.2.2.2.1 e.2.2.2.2:=by
 unfold lU;rw [h];simp
theorem iQ {L:List ac} {i:Nat} {d e:ac} (h:L[i+1]?=some e) (g:L[i]?=some d):lU L (i+1)=(dq e.1 e.2.1 e.2.2.1 e.2.2.2.1 e.2.2.2.2 && bF d.1 d.2.1 e.1 e.2.1):=by
 unfold lU;simp only [h,g]
theorem p8 {L:List ac} {k:Nat} {e:ac} (h:L[k]?=some e) (g:dq e.1 e.2.1 e.2.2.1 e.2.2.2.1 e.2.2.2.2=false):lU L k=false:=by
 unfold lU;rw [h];simp [g]
def cP (L:List ac) (m:Int):Bool:=decide (1≤L.length) && (decide (L.length≤150) && (aI L && decide (m=dG L)))
theorem u7 {L:List ac} {m:Int} (h:L.length<1):cP L m=false:=by
 have:decide (1≤L.length)=false:=decide_eq_false (by omega);simp [cP,this]
theorem sI {L:List ac} {m:Int} (h:150<L.length):cP L m=false:=by
 have:decide (L.length≤150)=false:=decide_eq_false (by omega);simp [cP,this]
theorem pQ {L:List ac} {m:Int} (h:aI L=false):cP L m=false:=by simp [cP,h]
theorem sH {L:List ac} {m:Int} (h1:1≤L.length) (h2:L.length≤150) (h3:aI L=true):cP L m=decide (m=dG L):=by
 simp [cP,h1,h2,h3]
end Go.Proofs.YtpobkmjicbobdaaGreat
namespace Go.Proofs.YtpobkmjicbobdaaGreat
open Go.RowKit
theorem vd {L:List ac} (h:aI L=true) (j:Nat) (d:j<L.length):lU L j=true:=by
 unfold aI at h;rw [GL] at h;exact h j (G7.2 d)
theorem eC {L:List ac} (h:aI L=true) {j:Nat} {e:ac} (d:L[j]?=some e):dq e.1 e.2.1 e.2.2.1 e.2.2.2.1 e.2.2.2.2=true:=by
 have h1:=vd h j (F'.1 d).1;cases g:dq e.1 e.2.1 e.2.2.1 e.2.2.2.1 e.2.2.2.2 with
 | true=>rfl
 | false=>rw [p8 d g] at h1;cases h1
theorem xC {L:List ac} (h:aI L=true) {j:Nat} {d e:ac} (hd:L[j]?=some d) (f:L[j+1]?=some e):bF d.1 d.2.1 e.1 e.2.1=true:=by
 have h1:=vd h (j+1) (F'.1 f).1;rw [iQ f hd] at h1;simp at h1;exact h1.2
theorem fu {L:List ac} (h:aI L=true) {i j:Nat} (n:i<j) {d e:ac} (hd:L[i]?=some d) (f:L[j]?=some e):bF d.1 d.2.1 e.1 e.2.1=true:=by
 induction j generalizing e with
 | zero=>omega
 | succ j g =>
  have m:j<L.length:=by have:=(F'.1 f).1;omega
  have hg:=j' m;have hn:=xC h hg f;by_cases e1:i=j
  · subst e1;rw [hg] at hd;cases hd;exact hn
  · exact fC (g (by omega) hg) hn
theorem mL {k t:ByteArray} {q d n:Int} (h:dq k q d t n=true):1≤q∧q≤100000:=by
 simp [dq] at h;exact ⟨h.2.1,h.2.2.1⟩
theorem bD {L:List ac} {m:Int} (h:cP L m=true):1≤L.length∧L.length≤150∧aI L=true∧m=dG L:=by
 simpa [cP] using h
def cF (L:List ac) (key:ByteArray) (seq:Int):List ac:=L.filter (fun e=>decide (e.1=key) && decide (e.2.1≤seq))
theorem uj {L:List ac} (h:aI L=true) {key:ByteArray} {seq:Int} {i j:Nat} (hi:i≤L.length) (o:j≤L.length)
 (i1:∀p e,L[p]?=some e→p<i→bF e.1 e.2.1 key seq=true) (i2:∀p e,L[p]?=some e→i≤p→bF e.1 e.2.1 key seq=false)
 (j1:∀p e,L[p]?=some e→p<j→bF e.1 e.2.1 key 0=true) (j2:∀p e,L[p]?=some e→j≤p→bF e.1 e.2.1 key 0=false) :
 i≤j∧cF L key seq=(L.drop i).take (j - i):=by
 have f:i≤j:=by
  by_cases h1:i≤j
  · exact h1
  · exfalso
    have m:j<L.length:=by omega
    have g:=j' m;have a:=i1 j _ g (by omega);have b:=j2 j _ g (Gg _);have c:=mL (eC h g);rcases ef a with a | ⟨a,n⟩
    · unfold bF at b;rw [a] at b;simp at b
    · unfold bF at b;have:decide ((0:Int)<L[j].2.1)=true:=decide_eq_true (by omega);rw [this] at b;simp [a] at b
 refine ⟨f,?_⟩;have split:L=L.take i++((L.drop i).take (j - i)++L.drop j):=by
  have:(L.drop i).drop (j - i)=L.drop j:=by rw [Ie];congr 1;omega
  rw [← this,GK,GK]
 unfold cF;have f1:(L.take i).filter (fun e=>decide (e.1=key) && decide (e.2.1≤seq))=[]:=by
  rw [Hz];intro e d;obtain ⟨p,hp,rfl⟩:=GT d;simp at hp;have g:L[p]?=some L[p]:=j' (by omega);have a:=i1 p _ g (by omega);simp only [Hf];rcases ef a with a | ⟨a,n⟩
  · have:¬L[p].1=key:=fun e=>by rw [e,cE] at a;cases a
    simp [this]
  · have:¬L[p].2.1≤seq:=by omega
    simp [this]
 have f3:(L.drop j).filter (fun e=>decide (e.1=key) && decide (e.2.1≤seq))=[]:=by
  rw [Hz];intro e d;obtain ⟨p,hp,rfl⟩:=GT d;simp at hp;have g:L[j+p]?=some (L[j+p]'(by omega)):=j' (by omega);have b:=j2 (j+p) _ g (by omega);have c:=mL (eC h g);simp only [Hj];have:¬(L[j+p]'(by omega)).1=key:=fun e=>by
   unfold bF at b;have:decide ((0:Int)<(L[j+p]'(by omega)).2.1)=true:=decide_eq_true (by omega);rw [this,e,cE] at b;simp at b
  simp [this]
 have f2:((L.drop i).take (j - i)).filter (fun e=>decide (e.1=key) && decide (e.2.1≤seq))=(L.drop i).take (j - i):=by
  rw [IW];intro e d;obtain ⟨p,hp,rfl⟩:=GT d;simp at hp;have hq:i+p<L.length:=by omega
  have g:L[i+p]?=some (L[i+p]'hq):=j' hq;have a:=i2 (i+p) _ g (by omega);have b:=j1 (i+p) _ g (by omega);simp only [Hf,Hj];have hk:(L[i+p]'hq).1=key:=by
   rcases ef b with b | ⟨b,_⟩
   · exfalso
     unfold bF at a;rw [b] at a;simp at a
   · exact b
  have hs:(L[i+p]'hq).2.1≤seq:=by
   unfold bF at a;rw [hk,cE] at a;simp at a;exact a
  simp [hk,hs]
 rw [split,Ho,Ho,f1,f2,f3];rw [← split];simp
theorem rV {L:List ac} {key:ByteArray} {seq:Int} {k:Nat} {e:ac} (h:L[k]?=some e) (h1:e.1=key) (h2:e.2.1≤seq):cF (L.take (k+1)) key seq=cF (L.take k) key seq++[e]:=by
 rw [GH,h];simp [cF,h1,h2]
theorem mJ {L:List ac} {key:ByteArray} {seq:Int} {k:Nat} {e:ac} (h:L[k]?=some e) (h1:¬(e.1=key∧e.2.1≤seq)):cF (L.take (k+1)) key seq=cF (L.take k) key seq:=by
 rw [GH,h];simp only [cF,Ho,Option.toList_some];have:List.filter (fun e=>decide (e.1=key) && decide (e.2.1≤seq)) [e]=[]:=by
  rw [Hz];intro x hx;simp only [GC] at hx;subst hx;simp only [Gx,decide_eq_true_eq];exact h1
 rw [this,Iq]
theorem mK (L:List ac) (key:ByteArray) (seq:Int):(cF L key seq).length≤L.length:=IP _ _
theorem vQ {L:List ac} {key:ByteArray} {seq:Int} {e:ac} (h:e ∈ cF L key seq):e ∈ L:=(Iy.1 h).1
end Go.Proofs.YtpobkmjicbobdaaGreat
namespace Go.Proofs.YtpobkmjicbobdaaGreat
set_option maxRecDepth 100000
set_option maxHeartbeats 40000000
open Go.ChangeShapes Go.Deep Go.Joins Go.RowKit Go.WideShapes
variable {L M:List ac} {S:List Int} {W w w' wr:World} {ak am av:Option Addr} {b cap cm cs cv k len lo lo' nm ns nv off:Nat} {e:ac} {q s:Int}
theorem wg {d:World} (hb:Bl W d):(∀b o,b<W.heap.size→d.cell? ⟨b,o,none⟩=W.cell? ⟨b,o,none⟩)∧(∀b o,b<W.heap.size→d.frozen? ⟨b,o,none⟩=W.frozen? ⟨b,o,none⟩) :=
 ⟨fun b o h=>hb.cell (p:=⟨b,o,none⟩) h,fun b o h=>hb.frozen (p:=⟨b,o,none⟩) h⟩
def eG (e:ac):Prop:=e.1.size≤maxLen∧(Lit.int .i64 e.2.1).wf=true∧(Lit.int .i64 e.2.2.1).wf=true∧e.2.2.2.1.size≤maxLen∧(Lit.int .i64 e.2.2.2.2).wf=true
def km (w:World) (b o:Nat) (e:ac):Prop:=w.cell? ⟨b,o,none⟩=some (.string e.1)∧w.cell? ⟨b,o+1,none⟩=some (iT e.2.1)∧w.cell? ⟨b,o+2,none⟩=some (iT e.2.2.1)∧w.cell? ⟨b,o+3,none⟩=some (.string e.2.2.2.1)∧w.cell? ⟨b,o+4,none⟩=some (iT e.2.2.2.2)
theorem km.moved {o:Nat} (h:km w b o e) (hc:∀o,w'.cell? ⟨b,o,none⟩=w.cell? ⟨b,o,none⟩):km w' b o e :=
 ⟨(hc _).trans h.1,(hc _).trans h.2.1,(hc _).trans h.2.2.1,(hc _).trans h.2.2.2.1,(hc _).trans h.2.2.2.2⟩
structure aj (w:World) (a:Option Addr) (len cap:Nat) (L:List ac):Prop where
 length:L.length=len
 room:len≤cap
 big:cap≤maxLen
 ents:∀e ∈ L,eG e
 nil:a=none→len=0
 lies:∀x,a=some x→0<len→x.block<w.heap.size∧x.spot=none
 cells:∀x,a=some x→∀i (h:i<L.length),km w x.block (x.off+i*5) L[i]
theorem aj.moved {a:Option Addr} (h:aj w a len cap L) (hs:w.heap.size≤w'.heap.size) (hc:∀x,a=some x→0<len→∀o,w'.cell? ⟨x.block,o,none⟩=w.cell? ⟨x.block,o,none⟩):aj w' a len cap L where
 length:=h.length
 room:=h.room
 big:=h.big
 ents:=h.ents
 nil:=h.nil
 lies:=fun x e hp=>⟨E' (h.lies x e hp).1 hs,(h.lies x e hp).2⟩
 cells:=fun x e i hi=>(h.cells x e i hi).moved (hc x e (by have:=h.length;omega))
theorem aj.below {B:Nat} {a:Option Addr} (h:aj w a len cap L) (hb:Below B w w') (hB:∀x,a=some x→0<len→x.block<B):aj w' a len cap L :=
 h.moved hb.size (fun x e hp o=>hb.cell (p:=⟨x.block,o,none⟩) (hB x e hp))
theorem aj.keep {a:Option Addr} (h:aj w a len cap L) (hb:Bl w w'):aj w' a len cap L:=h.below hb (fun x e hp=>(h.lies x e hp).1)
theorem aj.setCell {a:Option Addr} (h:aj w a len cap L) (p:Addr) (u:Value) (hp:∀x,a=some x→0<len→x.block≠p.block):aj (w.setCell p u) a len cap L :=
 h.moved (by simp [World.setCell]) (fun x e hl o=>G8 (by rw [Below.heap_setCell _ _ _ _ (hp x e hl)]))
theorem aj.ent {B:Nat} (h:aj w (some ⟨b,off,none⟩) len cap L) (hb:Below B w wr) (hB:b<B) (k:Nat) (hk:k<len) :
 ∃s q d t n,L[k]?=some (s,q,d,t,n)∧eG (s,q,d,t,n)∧wr.cell? ⟨b,off+k*5,none⟩=some (.string s)∧wr.cell? ⟨b,off+k*5+1,none⟩=some (iT q)∧wr.cell? ⟨b,off+k*5+2,none⟩=some (iT d)∧wr.cell? ⟨b,off+k*5+3,none⟩=some (.string t)∧wr.cell? ⟨b,off+k*5+4,none⟩=some (iT n):=by
 have f:k<L.length:=by rw [h.length];exact hk
 obtain ⟨c0,c1,g,c3,c4⟩:=(h.cells _ rfl k f).moved (fun o=>hb.cell (p:=⟨b,o,none⟩) hB);exact ⟨L[k].1,L[k].2.1,L[k].2.2.1,L[k].2.2.2.1,L[k].2.2.2.2,j' f,h.ents _ (GQ f),c0,c1,g,c3,c4⟩
theorem aj.form {a:Option Addr} (h:aj w a len cap L) (hl:1≤len):∃b off,a=some ⟨b,off,none⟩∧b<w.heap.size:=by
 cases a with
 | none=>have:=h.nil rfl;omega
 | some x =>
  obtain ⟨b,off,d⟩:=x;obtain ⟨h1,h2⟩:=h.lies _ rfl (by omega);simp only at h1 h2;subst h2;exact ⟨b,off,rfl,h1⟩
theorem Tryz.infoInt:(Tryz.prog.info? 3).map (fun i=>(i.zero,i.size,i.bytes))=some (some (iT 0),1,8):=by kernel_rfl
def dt (lo:Nat) (w w':World):Prop:=w.heap.size≤w'.heap.size∧∀b o,lo≤b→b<w.heap.size→w'.cell? ⟨b,o,none⟩=w.cell? ⟨b,o,none⟩
theorem dt.of_below (hb:Bl w w'):dt lo w w':=⟨hb.size,fun b o _ h=>hb.cell (p:=⟨b,o,none⟩) h⟩
theorem dt.of_set (p:Addr) (u:Value) (h:p.block<lo):dt lo w (w.setCell p u) :=
 ⟨by simp [World.setCell],fun b o hb _=>G8 (by rw [Below.heap_setCell _ _ _ _ (by simp only;omega)])⟩
theorem dt.trans {w'':World} (h:dt lo w w') (h':dt lo w' w''):dt lo w w'' :=
 ⟨Gq h.1 h'.1,fun b o hb hl=>(h'.2 b o hb (E' hl h.1)).trans (h.2 b o hb hl)⟩
structure aR (lo:Nat) (w:World) (a:Option Addr) (len cap:Nat) (S:List Int):Prop where
 length:S.length=len
 room:len≤cap
 big:cap≤maxLen
 wfs:∀q ∈ S,(Lit.int .i64 q).wf=true
 nil:a=none→len=0
 lies:∀x,a=some x→0<len→x.block<w.heap.size∧x.spot=none∧lo≤x.block
 cells:∀x,a=some x→∀i (h:i<S.length),w.cell? ⟨x.block,x.off+i,none⟩=some (iT S[i])
theorem aR.same {a:Option Addr} (h:aR lo w a len cap S) (hs:dt lo w w'):aR lo w' a len cap S where
 length:=h.length
 room:=h.room
 big:=h.big
 wfs:=h.wfs
 nil:=h.nil
 lies:=fun x e hp=>⟨E' (h.lies x e hp).1 hs.1,(h.lies x e hp).2⟩
 cells:=fun x e i hi=>by
  obtain ⟨hx,_,d⟩:=h.lies x e (by have:=h.length;omega)
  exact (hs.2 _ _ d hx).trans (h.cells x e i hi)
theorem aR.keep {a:Option Addr} (h:aR lo w a len cap S) (hb:Bl w w'):aR lo w' a len cap S:=h.same (dt.of_below hb)
theorem aR.lower {a:Option Addr} (h:aR lo w a len cap S) (hl:lo'≤lo):aR lo' w a len cap S :=
 ⟨h.length,h.room,h.big,h.wfs,h.nil,fun x e hp=>⟨(h.lies x e hp).1,(h.lies x e hp).2.1,Gq hl (h.lies x e hp).2.2⟩,h.cells⟩
theorem aR.form {a:Option Addr} (h:aR lo w a len cap S) (hl:1≤len):∃b off,a=some ⟨b,off,none⟩∧b<w.heap.size:=by
 cases a with
 | none=>have:=h.nil rfl;omega
 | some x =>
  obtain ⟨b,off,d⟩:=x;obtain ⟨h1,h2,_⟩:=h.lies _ rfl (by omega);simp only at h1 h2;subst h2;exact ⟨b,off,rfl,h1⟩
theorem aR.num (h:aR lo w (some ⟨b,off,none⟩) len cap S) (hb:Bl w wr) (k:Nat) (hk:k<len) :
 ∃q,S[k]?=some q∧(Lit.int .i64 q).wf=true∧wr.cell? ⟨b,off+k,none⟩=some (iT q):=by
 have d:k<S.length:=by rw [h.length];exact hk
 exact ⟨S[k],j' d,h.wfs _ (GQ d),(h.keep hb).cells _ rfl k d⟩
theorem Cd {a:Addr} (h:a.spot=none) (j:Nat):a.add j=⟨a.block,a.off+j,none⟩:=by
 obtain ⟨b,o,d⟩:=a;simp only at h;subst h;exact add_plain _ _ _
theorem open_ints {H:Type} {enc:TypeId × Value→H} {base C:Nat} {v:Value} {x:DataW H × List MemPlace} {held:Bool}
 (hf:DataW.trod enc Tryz.prog W base (fun _=>true) held C 24 [v]=some x) :
 ∃(a:Option Addr) (len cap:Nat) (S:List Int),v=.slice a len cap∧aR 0 W a len cap S:=by
 have r5:Tryz.prog.cellsOf 3=1:=by kernel_rfl
 rcases Deep.open_slice Tryz.underlying24 hf with ⟨d,_⟩ | ⟨a,len,cap,F,n,D,I,d,hb,hl,hm,r,_,hx⟩
 · simp at d;subst d;exact ⟨none,0,0,[],rfl,⟨rfl,Gg _,Gl _,by simp,fun _=>rfl,(fun x e=>by cases e),(fun x e=>by cases e)⟩⟩
 · simp at d;subst d;simp at r;rw [r5] at hx;have each:∀i,i<F→∃q:Int,(Lit.int .i64 q).wf=true∧W.cell? (a.add i)=some (iT q):=by
    intro i hi;obtain ⟨t,E,B⟩:=hx i hi;obtain ⟨_,hlen,o⟩:=World.cells?_some E;match t,hlen with
    | [u0],_ =>
     have u:=o 0 (by omega);rw [Deep.add_add] at u;obtain ⟨q,e0,_,A⟩:=DataW.trod_int Tryz.underlying3 B;simp at e0;subst e0;exact ⟨q,A,by simpa using u⟩
   obtain ⟨f,g⟩:=Deep.choose_lt each;have m:0<len→a.spot=none:=fun hp=>by
    obtain ⟨_,c0⟩:=g 0 (by omega);simpa [Addr.add] using World.cell?_spot c0
   refine ⟨some a,len,cap,(List.range len).map f,rfl,⟨by simp,hl,hm,?_,(fun e=>by cases e),?_,?_⟩⟩
   · intro q hq;obtain ⟨i,hi,rfl⟩:=G9.1 hq;exact (g i (by have:=G7.1 hi;omega)).1
   · rintro x e hp;cases e;refine ⟨?_,m hp,Gl _⟩;obtain ⟨_,c0⟩:=g 0 (by omega);have:=Gf _ _ c0;simpa [Addr.add] using this
   · rintro x e i hi;cases e;simp at hi;obtain ⟨_,y⟩:=g i (by omega);rw [Cd (m (by omega))] at y;simp only [List.getElem_map,List.getElem_range];exact y
abbrev af:=List ac × Int
def fj (lo:Nat) (w:World) (a:Option Addr) (len cap:Nat) (L:List ac):Prop:=aj w a len cap L∧∀x,a=some x→0<len→lo≤x.block
theorem fj.same {a:Option Addr} (h:fj lo w a len cap L) (hs:dt lo w w'):fj lo w' a len cap L :=
 ⟨h.1.moved hs.1 (fun x e hp _=>hs.2 _ _ (h.2 x e hp) (h.1.lies x e hp).1),h.2⟩
theorem fj.mono {a:Option Addr} (h:fj lo w a len cap L) (hl:lo'≤lo):fj lo' w a len cap L:=⟨h.1,fun x e hp=>Gq hl (h.2 x e hp)⟩
structure aw (lo:Nat) (w:World) (a:Option Addr) (len cap:Nat) (B:List af):Prop where
 length:B.length=len
 room:len≤cap
 big:cap≤maxLen
 nil:a=none→len=0
 lies:∀x,a=some x→0<len→x.block<w.heap.size∧x.spot=none∧lo≤x.block
 runs:∀x,a=some x→∀i (h:i<B.length),(Lit.int .i64 B[i].2).wf=true∧∃s n c,w.cell? ⟨x.block,x.off+i*2,none⟩=some (.slice s n c)∧w.cell? ⟨x.block,x.off+i*2+1,none⟩=some (iT B[i].2)∧fj lo w s n c B[i].1
theorem aw.same {a:Option Addr} {B:List af} (h:aw lo w a len cap B) (hs:dt lo w w'):aw lo w' a len cap B where
 length:=h.length
 room:=h.room
 big:=h.big
 nil:=h.nil
 lies:=fun x e hp=>⟨E' (h.lies x e hp).1 hs.1,(h.lies x e hp).2⟩
 runs:=fun x e i hi=>by
  obtain ⟨hx,_,d⟩:=h.lies x e (by have:=h.length;omega)
  obtain ⟨hw,s,n,c,c0,c1,hL⟩:=h.runs x e i hi
  exact ⟨hw,s,n,c,(hs.2 _ _ d hx).trans c0,(hs.2 _ _ d hx).trans c1,hL.same hs⟩
theorem aw.keep {a:Option Addr} {B:List af} (h:aw lo w a len cap B) (hb:Bl w w'):aw lo w' a len cap B:=h.same (dt.of_below hb)
theorem aw.mono {a:Option Addr} {B:List af} (h:aw lo w a len cap B) (hl:lo'≤lo):aw lo' w a len cap B :=
 ⟨h.length,h.room,h.big,h.nil,fun x e hp=>⟨(h.lies x e hp).1,(h.lies x e hp).2.1,Gq hl (h.lies x e hp).2.2⟩,fun x e i hi=>by obtain ⟨hw,s,n,c,c0,c1,hL⟩:=h.runs x e i hi;exact ⟨hw,s,n,c,c0,c1,hL.mono hl⟩⟩
theorem aw.form {a:Option Addr} {B:List af} (h:aw lo w a len cap B) (hl:1≤len):∃b off,a=some ⟨b,off,none⟩∧b<w.heap.size:=by
 cases a with
 | none=>have:=h.nil rfl;omega
 | some x =>
  obtain ⟨b,off,d⟩:=x;obtain ⟨h1,h2,_⟩:=h.lies _ rfl (by omega);simp only at h1 h2;subst h2;exact ⟨b,off,rfl,h1⟩
theorem aw.run {B:List af} (h:aw lo w (some ⟨b,off,none⟩) len cap B) (hb:Bl w wr) (k:Nat) (hk:k<len) :
 ∃L m s n c,B[k]?=some (L,m)∧(Lit.int .i64 m).wf=true∧wr.cell? ⟨b,off+k*2,none⟩=some (.slice s n c)∧wr.cell? ⟨b,off+k*2+1,none⟩=some (iT m)∧fj lo wr s n c L:=by
 have d:k<B.length:=by rw [h.length];exact hk
 obtain ⟨hw,s,n,c,c0,c1,hL⟩:=(h.keep hb).runs _ rfl k d;exact ⟨B[k].1,B[k].2,s,n,c,j' d,hw,c0,c1,hL⟩
theorem aw.wfs {a:Option Addr} {B:List af} (h:aw lo w a len cap B):∀p ∈ B,(Lit.int .i64 p.2).wf=true:=by
 intro p hp;obtain ⟨j,d,rfl⟩:=GT hp;obtain ⟨b,off,rfl,_⟩:=h.form (by have:=h.length;omega);exact (h.runs _ rfl j d).1
theorem xv (lo:Nat) (w:World):aw lo w none 0 0 []:=⟨rfl,Gg _,Gl _,fun _=>rfl,(fun x e=>by cases e),(fun x e=>by cases e)⟩
structure cC (lo:Nat) (w:World) (a:Option Addr) (len cap:Nat) (V:List (List af)):Prop where
 length:V.length=len
 room:len≤cap
 big:cap≤maxLen
 nil:a=none→len=0
 lies:∀x,a=some x→0<len→x.block<w.heap.size∧x.spot=none∧lo≤x.block
 levels:∀x,a=some x→∀i (h:i<V.length),∃s n c,w.cell? ⟨x.block,x.off+i,none⟩=some (.slice s n c)∧aw lo w s n c V[i]
theorem cC.same {a:Option Addr} {V:List (List af)} (h:cC lo w a len cap V) (hs:dt lo w w'):cC lo w' a len cap V where
 length:=h.length
 room:=h.room
 big:=h.big
 nil:=h.nil
 lies:=fun x e hp=>⟨E' (h.lies x e hp).1 hs.1,(h.lies x e hp).2⟩
 levels:=fun x e i hi=>by
  obtain ⟨hx,_,d⟩:=h.lies x e (by have:=h.length;omega)
  obtain ⟨s,n,c,c0,hL⟩:=h.levels x e i hi
  exact ⟨s,n,c,(hs.2 _ _ d hx).trans c0,hL.same hs⟩
theorem cC.keep {a:Option Addr} {V:List (List af)} (h:cC lo w a len cap V) (hb:Bl w w'):cC lo w' a len cap V:=h.same (dt.of_below hb)
theorem cC.mono {a:Option Addr} {V:List (List af)} (h:cC lo w a len cap V) (hl:lo'≤lo):cC lo' w a len cap V :=
 ⟨h.length,h.room,h.big,h.nil,fun x e hp=>⟨(h.lies x e hp).1,(h.lies x e hp).2.1,Gq hl (h.lies x e hp).2.2⟩,fun x e i hi=>by obtain ⟨s,n,c,c0,hL⟩:=h.levels x e i hi;exact ⟨s,n,c,c0,hL.mono hl⟩⟩
theorem cC.form {a:Option Addr} {V:List (List af)} (h:cC lo w a len cap V) (hl:1≤len):∃b off,a=some ⟨b,off,none⟩∧b<w.heap.size:=by
 cases a with
 | none=>have:=h.nil rfl;omega
 | some x =>
  obtain ⟨b,off,d⟩:=x;obtain ⟨h1,h2,_⟩:=h.lies _ rfl (by omega);simp only at h1 h2;subst h2;exact ⟨b,off,rfl,h1⟩
theorem cC.level {V:List (List af)} (h:cC lo w (some ⟨b,off,none⟩) len cap V) (hb:Bl w wr) (k:Nat) (hk:k<len) :
 ∃B s n c,V[k]?=some B∧wr.cell? ⟨b,off+k,none⟩=some (.slice s n c)∧aw lo wr s n c B:=by
 have d:k<V.length:=by rw [h.length];exact hk
 obtain ⟨s,n,c,c0,hL⟩:=(h.keep hb).levels _ rfl k d;exact ⟨V[k],s,n,c,j' d,c0,hL⟩
structure bn (lo:Nat) (w:World) (am:Option Addr) (nm cm:Nat) (av:Option Addr) (nv cv:Nat) (ak:Option Addr) (ns cs:Nat) (M:List ac) (V:List (List af)) (S:List Int):Prop where
 mem:fj lo w am nm cm M
 levels:cC lo w av nv cv V
 snaps:aR lo w ak ns cs S
theorem bn.same {V:List (List af)} (h:bn lo w am nm cm av nv cv ak ns cs M V S) (hs:dt lo w w'):bn lo w' am nm cm av nv cv ak ns cs M V S:=⟨h.mem.same hs,h.levels.same hs,h.snaps.same hs⟩
theorem bn.keep {V:List (List af)} (h:bn lo w am nm cm av nv cv ak ns cs M V S) (hb:Bl w w'):bn lo w' am nm cm av nv cv ak ns cs M V S:=h.same (dt.of_below hb)
def b9 (M:List ac) (q:Int):Bool:=M.all (fun e=>decide (e.2.1≤q))
theorem uB (h:b9 (M.take k) q=true) (hk:M[k]?=some e) (d:e.2.1≤q):b9 (M.take (k+1)) q=true:=by
 unfold b9 at h ⊢;rw [GH,hk];simp only [Option.toList,List.all_append,h,List.all_cons,List.all_nil,Bool.and_true,Bool.true_and];exact decide_eq_true d
theorem zF (hk:M[k]?=some e) (d:¬e.2.1≤q):b9 M q=false:=by
 unfold b9;rw [Ih];intro h;rw [GL] at h;exact d (of_decide_eq_true (h e (Gk hk)))
def cZ (S:List Int) (q:Int) (i:Nat):Bool :=
 match S[i]? with
 | none=>true
 | some s=>decide (0≤s) && (decide (s≤q) && (match i with | 0=>true | j+1=>match S[j]? with | none=>true | some p=>decide (p<s)))
def ly (S:List Int) (q:Int) (k:Nat):Prop:=∀j,j<k→cZ S q j=true
def bX (S:List Int) (q:Int):Bool:=decide (S.length≤4) && (List.range S.length).all (cZ S q)
theorem xt (h:4<S.length):bX S q=false:=by
 unfold bX;rw [decide_eq_false (by omega)];rfl
theorem iM (hk:k<S.length) (h:cZ S q k=false):bX S q=false:=by
 unfold bX;rw [IQ];right
 rw [Ih];intro h1;rw [GL] at h1;rw [h1 k (G7.2 hk)] at h;cases h
theorem sD (h:ly S q S.length):bX S q=decide (S.length≤4):=by
 unfold bX;have:(List.range S.length).all (cZ S q)=true:=by
  rw [GL];intro j d;exact h j (G7.1 d)
 rw [this,Bool.and_true]
theorem jf (h:ly S q k) (hk:cZ S q k=true):ly S q (k+1):=by
 intro j d;by_cases e:j=k
 · subst e;exact hk
 · exact h j (by omega)
theorem nq (h:S[0]?=some s):cZ S q 0=(decide (0≤s) && decide (s≤q)):=by
 unfold cZ;rw [h];simp
theorem kM {p:Int} {j:Nat} (h:S[j+1]?=some s) (hp:S[j]?=some p):cZ S q (j+1)=(decide (0≤s) && (decide (s≤q) && decide (p<s))):=by
 unfold cZ;simp only [h,hp]
theorem uX (h:S[k]?=some s) (hs:s<0):cZ S q k=false:=by
 unfold cZ;rw [h];simp only;rw [decide_eq_false (by omega)];rfl
theorem sE (h:S[k]?=some s) (hs:q<s):cZ S q k=false:=by
 unfold cZ;rw [h];simp only;rw [decide_eq_false (p:=s≤q) (by omega)];simp
theorem fa (s:ByteArray) (w:World) (hs:s.size≤maxLen) :
 Calls Tryz.prog 199 #[.string s] w fun e w'=>e=.returned (.bool (fW s))∧w'=w:=by
 unfold maxLen at hs;go_enter Tryz.func199,Tryz.ntmps199
 go_wp2;go_loop [3] (fun i=>∃k:Nat,k≤s.size∧i=iT k∧(s.data.toList.take k).all lF=true) (fun i=>s.size - (intOf i).toNat)
 case atStart=>exact ⟨0,Gl _,rfl,rfl⟩
 case round =>
  obtain ⟨k,hk,rfl,g⟩:=hrel;have r:=az g;by_cases d:k<s.size
  · cases hb:lF s[k] with
    | true =>
     have h3:=sU hb;have f:=az hb;rcases h3 with ⟨m,n⟩ | ⟨m,n⟩
     · go_wp2;go_round
       case rel=>exact ⟨k+1,by omega,by go_num,iH s k d r.o f.o⟩
       case measure=>simp [intOf];omega
     · go_wp2;go_round
       case rel=>exact ⟨k+1,by omega,by go_num,iH s k d r.o f.o⟩
       case measure=>simp [intOf];omega
    | false =>
     have h3:=qs hb;have f:=az hb;rcases h3 with h3 | ⟨h3,h4⟩ | h3
     · go_wp2;go_ret;exact ⟨ag (ia s k d f.o).symm,rfl⟩
     · go_wp2;go_ret;exact ⟨ag (ia s k d f.o).symm,rfl⟩
     · go_wp2;go_ret;exact ⟨ag (ia s k d f.o).symm,rfl⟩
  · go_wp2;all_goals
     go_ret;refine ⟨ag ?_,rfl⟩;rw [oT s k (by omega) r.o];first | exact DZ _ (by omega) | exact E5 _ (by omega)
theorem Aw (b:Int) (w:World) (h:(97≤b∧b≤122)∨(47≤b∧b≤57)):Calls Tryz.prog 160 #[.int .u8 b] w fun e w'=>e=.returned (.bool true)∧w'=w:=by
 rcases h with ⟨h1,h2⟩ | ⟨h1,h2⟩
 · go_enter Tryz.func160,Tryz.ntmps160
   go_wp2;all_goals
    go_ret;exact ⟨rfl,rfl⟩
 · by_cases h3:b=47
   · subst h3;go_enter Tryz.func160,Tryz.ntmps160
     go_wp2;all_goals
      go_ret;exact ⟨rfl,rfl⟩
   · have h4:48≤b:=by omega
     go_enter Tryz.func160,Tryz.ntmps160
     go_wp2;all_goals
      go_ret;exact ⟨rfl,rfl⟩
theorem CZ (b:Int) (w:World) (h:b<47∨(57<b∧b<97)∨122<b):Calls Tryz.prog 160 #[.int .u8 b] w fun e w'=>e=.returned (.bool false)∧w'=w:=by
 have hd:(b == 47)=false:=by rw [beq_eq_false_iff_ne];omega
 have d:¬b=47:=by omega
 rcases h with h | ⟨h,h'⟩ | h
 rotate_left
 rotate_left
 all_goals
  go_enter Tryz.func160,Tryz.ntmps160
  go_wp2;all_goals
   go_ret;exact ⟨ag (by first | rfl | (simp;omega) | simp),rfl⟩
theorem gG (s:ByteArray) (w:World) (hs:s.size≤maxLen) :
 Calls Tryz.prog 99 #[.string s] w fun e w'=>e=.returned (.bool (fW s))∧w'=w:=by
 unfold maxLen at hs;by_cases h1:s.size<1
 · go_enter Tryz.func99,Tryz.ntmps99
   go_wp2;go_ret;exact ⟨ag (yd s h1).symm,rfl⟩
 by_cases h4:8<s.size
 · go_enter Tryz.func99,Tryz.ntmps99
   go_wp2;go_ret;exact ⟨ag (Cy s h4).symm,rfl⟩
 go_enter Tryz.func99,Tryz.ntmps99
 go_wp2;go_loop [14] (fun i=>∃k:Nat,k≤s.size∧i=iT k∧(s.data.toList.take k).all lF=true) (fun i=>s.size - (intOf i).toNat)
 case atStart=>exact ⟨0,Gl _,rfl,rfl⟩
 case round =>
  obtain ⟨k,hk,rfl,f⟩:=hrel;have n:=az f;by_cases d:k<s.size
  · cases hb:lF s[k] with
    | true =>
     have h3:=sU hb;have g:=az h3;have m:=az hb;go_wp2_with (go_at_call 160;refine (Aw _ _ g.o).mono ?_;rintro e w' ⟨rfl,rfl⟩)
     go_round
     case rel=>exact ⟨k+1,by omega,by go_num,iH s k d n.o m.o⟩
     case measure=>simp [intOf];omega
    | false =>
     have h3:=qs hb;have g:=az h3;have m:=az hb;go_wp2_with (go_at_call 160;refine (CZ _ _ g.o).mono ?_;rintro e w' ⟨rfl,rfl⟩)
     go_ret;exact ⟨ag (ia s k d m.o).symm,rfl⟩
  · go_wp2;go_ret;exact ⟨ag (Cz s (by omega) (by omega) k (by omega) n.o).symm,rfl⟩
end Go.Proofs.YtpobkmjicbobdaaGreat
