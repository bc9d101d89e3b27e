/- Walks. -/
import Derived.WalkKit
import Derived.Lib.Bytealg
import Derived.Lib.Small
import Derived.Lib.Strings
import Derived.WalkSpells
import Derived.WalkLawsBesides
import Derived.Test.YtpobkmjicbobdaaGreatProg
import Derived.ProofKit
import Derived.Lib.SmallJoins
import Derived.Deep.Slices
import Derived.Deep.Strs
import Derived.Deep.SlicePairs
import Derived.OpenShut
namespace Go.Proofs.YtpobkmjicbobdaaGreat
set_option maxRecDepth 100000
set_option maxHeartbeats 40000000
open Go.ChangeShapes Go.Deep Go.Joins Go.RowKit Go.WideShapes
variable {w:World}
abbrev j':=@List.getElem?_eq_getElem.{0}
abbrev u':=@Nat.lt_of_lt_of_le
abbrev E':=@List.getElem?_eq_some_iff.{0}
abbrev Ft:=@World.cell?_setCell_other
abbrev Fu:=@World.block_lt_of_cell?
abbrev Fv:=@Nat.le_refl
abbrev Fw:=@List.mem_of_getElem?.{0}
abbrev Fx:=@Option.some.inj.{0}
abbrev Fy:=@List.length_append.{0}
abbrev Fz:=@List.getElem?_append_right.{0}
abbrev FB:=@Nat.zero_le
abbrev FC:=@List.length_take.{0}
abbrev FD:=@World.cell?_setCell_same'
abbrev FE:=@List.getElem?_append_left.{0}
abbrev FF:=@List.mem_cons.{0}
abbrev FG:=@Nat.zero_add
abbrev FH:=@List.take_of_length_le.{0}
abbrev FI:=@List.mem_append.{0}
abbrev FJ:=@Bool.and_eq_true
abbrev FK:=@Nat.le_trans
abbrev FL:=@List.mem_singleton.{0}
abbrev FN:=@List.length_drop.{0}
abbrev FO:=@Go.WideShapes.add_plain
abbrev FP:=@World.size_alloc
abbrev FQ:=@IntWalk.i64_left
abbrev FR:=@List.pairwise_cons.{0}
abbrev FS:=@World.frozen?_setCell
abbrev FT:=@List.append_assoc.{0}
abbrev FU:=@List.take_add_one.{0}
abbrev FV:=@List.mem_cons_self.{0}
abbrev FW:=@WalkArith.wf_i64
abbrev FX:=@List.take_append_drop.{0}
abbrev FY:=@List.mem_cons_of_mem.{0}
abbrev FZ:=@List.all_eq_true.{0}
abbrev F0:=@IntKind.wrap_i64
abbrev F1:=@ByteArray.toList_eq
abbrev F2:=@List.pairwise_iff_getElem.{0}
abbrev F3:=@List.getElem?_set_ne.{0}
abbrev F4:=@List.not_mem_nil.{0}
abbrev F5:=@List.length_cons.{0}
abbrev F6:=@World.ownsRow_lit
abbrev F7:=@List.getElem_of_mem.{0}
abbrev F8:=@List.getElem_mem.{0}
abbrev F9:=@List.mem_of_mem_take.{0}
abbrev F':=@List.getElem?_of_mem.{0}
abbrev Ga:=@Nat.succ_pos
abbrev Gb:=@List.nil_append.{0}
abbrev Gc:=@World.cell?_of_block
abbrev Gd:=@List.cons_append.{0}
abbrev Ge:=@List.getElem?_take_of_lt.{0}
abbrev Gf:=@List.mem_of_mem_drop.{0}
abbrev Gg:=@List.getElem?_drop.{0}
abbrev Gh:=@List.mem_range
abbrev Gi:=@Oper.semAt_some
abbrev Gj:=@List.drop_eq_getElem_cons.{0}
abbrev Gk:=@List.length_eq_zero_iff.{0}
abbrev Gl:=@List.pairwise_append.{0}
abbrev Gm:=@Array.getElem?_eq_some_iff.{0}
abbrev Gn:=@List.getElem_take.{0}
abbrev Gp:=@List.mem_map.{0,0}
abbrev Gq:=@Int.eq_ofNat_of_zero_le
abbrev Gr:=@List.getElem_drop.{0}
abbrev Gt:=@List.filter_append.{0}
abbrev Gu:=@List.getElem?_set_self.{0}
abbrev Gv:=@Nat.add_zero
abbrev Gw:=@List.getElem?_cons_succ.{0}
abbrev Gx:=@List.map_cons.{0,0}
abbrev Gy:=@Nat.not_lt_zero
abbrev Gz:=@List.length_nil.{0}
abbrev GA:=@List.flatten_cons.{0}
abbrev GB:=@List.set_append_right.{0}
abbrev GC:=@List.filter_eq_nil_iff.{0}
abbrev GD:=@List.drop_of_length_le.{0}
abbrev GE:=@Array.getElem?_push_size.{0}
abbrev GF:=@List.size_toArray.{0}
abbrev GG:=@Nat.add_sub_cancel
abbrev GH:=@List.Pairwise.sublist.{0}
abbrev GI:=@Nat.add_sub_cancel_left
abbrev GJ:=@Array.replicate_succ.{0}
abbrev GK:=@Array.replicate_zero.{0}
abbrev GL:=@List.set_cons_succ.{0}
abbrev GM:=@List.map_append.{0,0}
abbrev GN:=@List.append_toArray.{0}
abbrev GO:=@List.map_nil.{0,0}
abbrev GP:=@List.drop_drop.{0}
abbrev GQ:=@Ne.symm.{0}
abbrev GR:=@List.append_nil.{0}
abbrev GS:=@Array.toList_inj.{0}
abbrev GT:=@List.flatten_append.{0}
abbrev GU:=@Bool.eq_false_iff
abbrev GV:=@List.push_toArray.{0}
abbrev GW:=@List.filter_cons_of_pos.{0}
abbrev GX:=@ByteArray.ext
abbrev GY:=@List.set_cons_zero.{0}
abbrev GZ:=@List.mem_flatten.{0}
abbrev G2:=@Option.some.injEq.{0}
abbrev G3:=@List.Sublist.refl.{0}
abbrev G4:=@Nat.zero_mul
abbrev G5:=@Nat.sub_self
abbrev G6:=@List.getElem?_cons_zero.{0}
abbrev G7:=@List.mem_iff_getElem.{0}
abbrev G8:=@List.setIfInBounds_toArray.{0}
abbrev G9:=@Nat.add_assoc
abbrev Ha:=@List.exists_cons_of_ne_nil.{0}
abbrev Hb:=@World.frozen?_of_block
abbrev Hc:=@List.any_eq_false.{0}
abbrev Hd:=@List.getElem?_eq_none.{0}
abbrev He:=@List.mem_flatMap.{0,0}
abbrev Hf:=@Option.isSome_iff_exists.{0}
abbrev Hg:=@List.pairwise_singleton.{0}
abbrev Hh:=@World.frozen?_alloc_new
abbrev Hi:=@Bool.or_eq_true
abbrev Hj:=@List.mem_filter.{0}
abbrev Hk:=@List.length_map.{0,0}
abbrev Hl:=@List.Sublist.append.{0}
abbrev Hm:=@List.mem_reverse.{0}
abbrev Hn:=@Bool.false_eq_true
abbrev Ho:=@List.mem_or_eq_of_mem_set.{0}
abbrev Hp:=@Nat.le_of_lt
abbrev Hq:=@Bool.not_eq_true'
abbrev Hr:=@List.flatMap_cons.{0,0}
abbrev Hs:=@List.getElem?_map.{0,0}
abbrev Ht:=@List.drop_eq_nil_of_le.{0}
abbrev Hu:=@Nat.lt_of_le_of_lt
abbrev Hv:=@List.getElem?_take.{0}
abbrev Hw:=@List.length_filter_le.{0}
abbrev Hx:=@Bool.and_eq_false_iff
abbrev Hy:=@List.drop_sublist.{0}
abbrev Hz:=@List.mem_append_left.{0}
abbrev H7:=@Nat.lt_irrefl
abbrev H8:=@List.nodup_cons.{0}
abbrev H9:=@List.length_set.{0}
def Eq (p:Prop):Prop:=p
theorem Eq.o {p:Prop} (h:Eq p):p:=h
def FA (p:Prop):Prop:=p
theorem FA.o {p:Prop} (h:FA p):p:=h
abbrev nZ:Value:=.slice none 0 0
abbrev sL (b n c:Nat):Value:=.slice (some ⟨b,0,none⟩) n c
abbrev sO (b o n c:Nat):Value:=.slice (some ⟨b,o,none⟩) n c
abbrev pT (b:Nat):Option Addr:=some ⟨b,0,none⟩
abbrev aD (b o:Nat):Addr:=⟨b,o,none⟩
abbrev iT (q:Int):Value:=.int .i64 q
abbrev Bl (w w':World):Prop:=Below w.heap.size w w'
theorem bZ {o:Obj}:Below w.heap.size w (w.alloc o):=(Below.refl _ _).alloc (Fv _) _
theorem tk {B b:Nat} {a:World} (h:Below B a w) (hB:B≤b) (v0 d f v3:Value):Below B a ((((w.setCell ⟨b,0,none⟩ v0).setCell ⟨b,1,none⟩ d).setCell ⟨b,2,none⟩ f).setCell ⟨b,3,none⟩ v3):=(((h.setCell (p:=⟨b,0,none⟩) hB _).setCell (p:=⟨b,1,none⟩) hB _).setCell (p:=⟨b,2,none⟩) hB _).setCell (p:=⟨b,3,none⟩) hB _
theorem bT {p:Prop} (h:p):Eq p:=h
theorem aG {α:Type} (a:α):∃x,x=a:=⟨a,rfl⟩
theorem nT (s:ByteArray) (k:Nat) (h:k<s.size):s.data.toList.take (k+1)=s.data.toList.take k++[s[k]]:=by
 rw [List.take_succ_eq_append_getElem (by simpa using h)];rfl
theorem aq {a b:Bool} (h:a=b):Ending.returned (.bool a)=.returned (.bool b):=by rw [h]
theorem mf {k:IntKind} {a b:Int} (h:a=b):Ending.returned (.int k a)=.returned (.int k b):=by rw [h]
end Go.Proofs.YtpobkmjicbobdaaGreat
namespace Go.Proofs.YtpobkmjicbobdaaGreat
open Go.RowKit
def ip (b:UInt8):Bool:=(decide (97≤b.toNat) && decide (b.toNat≤122)) || (decide (47≤b.toNat) && decide (b.toNat≤57))
def fV (s:ByteArray):Bool:=decide (1≤s.size) && (decide (s.size≤8) && s.data.toList.all ip)
theorem sc {b:UInt8} (h:ip b=true):(97≤(b.toNat:Int)∧(b.toNat:Int)≤122)∨(47≤(b.toNat:Int)∧(b.toNat:Int)≤57):=by
 simp [ip] at h;omega
theorem pU {b:UInt8} (h:ip b=false):(b.toNat:Int)<47∨(57<(b.toNat:Int)∧(b.toNat:Int)<97)∨122<(b.toNat:Int):=by
 simp [ip] at h;by_cases h1:b.toNat<47
 · exact Or.inl (by omega)
 · by_cases h2:b.toNat<97
   · exact Or.inr (Or.inl (by omega))
   · exact Or.inr (Or.inr (by omega))
theorem iG (s:ByteArray) (k:Nat) (h:k<s.size) (ha:(s.data.toList.take k).all ip=true) (hb:ip s[k]=true):(s.data.toList.take (k+1)).all ip=true:=by
 rw [nT s k h,List.all_append,ha];simp [hb]
theorem gU (s:ByteArray) (k:Nat) (h:k<s.size) (hb:ip s[k]=false):fV s=false:=by
 have:s.data.toList.all ip=false:=by
  rw [GU];intro d;rw [FZ] at d;have hm:s[k] ∈ s.data.toList:=by
   have:s.data.toList[k]'(by simpa using h)=s[k]:=rfl;rw [← this];exact F8 _
  rw [d _ hm] at hb;cases hb
 unfold fV;rw [this];simp
theorem xt (s:ByteArray) (h:s.size<1):fV s=false:=by
 unfold fV;have:decide (1≤s.size)=false:=decide_eq_false (by omega);rw [this];rfl
theorem BS (s:ByteArray) (h:8<s.size):fV s=false:=by
 unfold fV;have:decide (s.size≤8)=false:=decide_eq_false (by omega);rw [this];simp
theorem oo (s:ByteArray) (k:Nat) (hk:s.size≤k) (ha:(s.data.toList.take k).all ip=true):fV s=(decide (1≤s.size) && decide (s.size≤8)):=by
 unfold fV;rw [FH (by simpa using hk)] at ha;simp [ha]
theorem BT (s:ByteArray) (h1:1≤s.size) (d:s.size≤8) (k:Nat) (hk:s.size≤k) (ha:(s.data.toList.take k).all ip=true):fV s=true:=by
 rw [oo s k hk ha];simp [h1,d]
theorem Df (n:Nat) (h:1≤(n:Int)):decide ((n:Int)≤8)=(decide (1≤n) && decide (n≤8)):=by
 have h1:decide (1≤n)=true:=decide_eq_true (by omega);rw [h1,Bool.true_and,Bool.eq_iff_iff];simp;omega
theorem Eg (n:Nat) (h:(n:Int)<1):false=(decide (1≤n) && decide (n≤8)):=by
 have h1:decide (1≤n)=false:=decide_eq_false (by omega);rw [h1];rfl
abbrev ae:=ByteArray × Int × Int × ByteArray × Int
abbrev fe:=Bool × ByteArray × Int
def fO (d:Int) (t:ByteArray) (n:Int):Bool :=
 if d=1 then true else if d=2 then decide (t.size=0) && decide (n=0) else if d=3 then decide (t.size=0) else false
def dm (k:ByteArray) (q d:Int) (t:ByteArray) (n:Int):Bool :=
 fV k && (decide (1≤q) && (decide (q≤100000) && (decide (-1000000≤n) && (decide (n≤1000000) && (decide (t.size≤60) && fO d t n)))))
theorem vl {k t:ByteArray} {q d n:Int} (h:fV k=false):dm k q d t n=false:=by simp [dm,h]
theorem yy {k t:ByteArray} {q d n:Int} (h:q<1):dm k q d t n=false:=by
 have:decide (1≤q)=false:=decide_eq_false (by omega);simp [dm,this]
theorem yx {k t:ByteArray} {q d n:Int} (h:100000<q):dm k q d t n=false:=by
 have:decide (q≤100000)=false:=decide_eq_false (by omega);simp [dm,this]
theorem yB {k t:ByteArray} {q d n:Int} (h:n < -1000000):dm k q d t n=false:=by
 have:decide (-1000000≤n)=false:=decide_eq_false (by omega);simp [dm,this]
theorem yA {k t:ByteArray} {q d n:Int} (h:1000000<n):dm k q d t n=false:=by
 have:decide (n≤1000000)=false:=decide_eq_false (by omega);simp [dm,this]
theorem Cm {k t:ByteArray} {q d n:Int} (h:60<t.size):dm k q d t n=false:=by
 have:decide (t.size≤60)=false:=decide_eq_false (by omega);simp [dm,this]
theorem eG {k t:ByteArray} {q d n:Int} (h:fV k=true) (h1:1≤q) (h2:q≤100000) (h3:-1000000≤n) (h4:n≤1000000) (h5:t.size≤60):dm k q d t n=fO d t n:=by
 simp [dm,h,h1,h2,h3,h4,h5]
theorem fK {t:ByteArray} (h:t≠ByteArray.empty):t.size≠0:=by
 intro h0;apply h;apply GX;exact Array.eq_empty_of_size_eq_zero h0
theorem jZ {t:ByteArray} (h:t≠ByteArray.empty):¬t.toList=[]:=by
 intro h0;apply h;rw [F1] at h0;apply GX;exact Array.toList_eq_nil_iff.1 h0
theorem oV {t:ByteArray} {n:Int}:fO 1 t n=true:=by simp [fO]
theorem iB {t:ByteArray} {n:Int}:fO 2 t n=(decide (t.size=0) && decide (n=0)):=by simp [fO]
theorem mo {t:ByteArray} {n:Int}:fO 3 t n=decide (t.size=0):=by simp [fO]
theorem oX {d:Int} {t:ByteArray} {n:Int} (h1:d≠1) (h2:d≠2) (h3:d≠3):fO d t n=false:=by simp [fO,h1,h2,h3]
end Go.Proofs.YtpobkmjicbobdaaGreat
namespace Go.Proofs.YtpobkmjicbobdaaGreat
open Go.RowKit
theorem iW:∀(a b:List UInt8),(Lib.compareBytes a b=-1∧Op.bytesLess a b=true∧a≠b)∨(Lib.compareBytes a b=0∧Op.bytesLess a b=false∧a=b)∨(Lib.compareBytes a b=1∧Op.bytesLess a b=false∧a≠b)
 | [],[]=>Or.inr (Or.inl ⟨rfl,rfl,rfl⟩)
 | [],_ :: _=>Or.inl ⟨rfl,rfl,by simp⟩
 | _ :: _,[]=>Or.inr (Or.inr ⟨rfl,rfl,by simp⟩)
 | x :: a,y :: b=>by
  have g:=iW a b
  unfold Lib.compareBytes Op.bytesLess
  by_cases h1:x<y
  · have d:x≠y:=fun e=>UInt8.lt_irrefl y (e ▸ h1)
    exact Or.inl ⟨by simp [h1],by simp [h1],fun e=>d (by simpa using (List.cons.inj e).1)⟩
  · by_cases h2:y<x
    · have d:x≠y:=fun e=>UInt8.lt_irrefl y (e ▸ h2)
      exact Or.inr (Or.inr ⟨by simp [h1,h2],by simp [h1,d],fun e=>d (by simpa using (List.cons.inj e).1)⟩)
    · have f:x=y:=UInt8.le_antisymm (UInt8.not_lt.1 h2) (UInt8.not_lt.1 h1)
      subst f
      rcases g with ⟨p,q,r⟩ | ⟨p,q,r⟩ | ⟨p,q,r⟩
      · exact Or.inl ⟨by simp [h1,p],by simp [q],by simpa using r⟩
      · exact Or.inr (Or.inl ⟨by simp [h1,p],by simp [h1,q],by simpa using r⟩)
      · exact Or.inr (Or.inr ⟨by simp [h1,p],by simp [h1,q],by simpa using r⟩)
def bI (ka:ByteArray) (qa:Int) (kb:ByteArray) (qb:Int):Bool :=
 Op.bytesLess ka.data.toList kb.data.toList || (decide (ka=kb) && decide (qb<qa))
end Go.Proofs.YtpobkmjicbobdaaGreat
namespace Go.Proofs.YtpobkmjicbobdaaGreat
open Go.RowKit
theorem b9:∀a:List UInt8,Op.bytesLess a a=false
 | []=>rfl
 | x :: a=>by
  unfold Op.bytesLess
  have:=b9 a
  simp [this]
theorem eK:∀a b:List UInt8,Op.bytesLess a b=true→Op.bytesLess b a=false
 | [],[],h=>by simp [Op.bytesLess] at h
 | [],_ :: _,_=>rfl
 | _ :: _,[],h=>by simp [Op.bytesLess] at h
 | x :: a,y :: b,h=>by
  unfold Op.bytesLess at h ⊢
  have d:=eK a b
  simp only [Hi,decide_eq_true_eq,FJ,beq_iff_eq] at h
  rcases h with h | ⟨rfl,h⟩
  · have h1:¬y<x:=fun g=>UInt8.lt_asymm h g
    have h2:¬y=x:=fun g=>UInt8.lt_irrefl x (by rw [g] at h;exact h)
    simp [h1,h2]
  · simp [d h]
theorem iD:∀a b:List UInt8,a≠b→Op.bytesLess a b=true∨Op.bytesLess b a=true
 | [],[],h=>absurd rfl h
 | [],_ :: _,_=>Or.inl rfl
 | _ :: _,[],_=>Or.inr rfl
 | x :: a,y :: b,h=>by
  unfold Op.bytesLess
  by_cases h1:x<y
  · left;simp [h1]
  · by_cases h2:y<x
    · right;simp [h2]
    · have f:x=y:=UInt8.le_antisymm (UInt8.not_lt.1 h2) (UInt8.not_lt.1 h1)
      subst f
      have d:=iD a b (fun e=>h (by rw [e]))
      rcases d with d | d
      · left;simp [d]
      · right;simp [d]
theorem cw:∀a b c:List UInt8,Op.bytesLess a b=true→Op.bytesLess b c=true→Op.bytesLess a c=true
 | _,_,[],_,h=>by simp [Op.bytesLess] at h
 | [],_,_ :: _,_,_=>rfl
 | _ :: _,[],_ :: _,h,_=>by simp [Op.bytesLess] at h
 | x :: a,y :: b,z :: c,h,k=>by
  unfold Op.bytesLess at h k ⊢
  simp only [Hi,decide_eq_true_eq,FJ,beq_iff_eq] at h k ⊢
  rcases h with h | ⟨rfl,h⟩
  · rcases k with k | ⟨rfl,k⟩
    · exact Or.inl (UInt8.lt_trans h k)
    · exact Or.inl h
  · rcases k with k | ⟨rfl,k⟩
    · exact Or.inl k
    · exact Or.inr ⟨rfl,cw a b c h k⟩
theorem ii (k:ByteArray) (q:Int):bI k q k q=false:=by
 unfold bI;simp [b9]
theorem eu {d f:ByteArray} {g m:Int} (h:bI d g f m=true):Op.bytesLess d.data.toList f.data.toList=true∨(d=f∧m<g):=by
 unfold bI at h;simpa using h
theorem u6 {ka f:ByteArray} {d qb:Int} (h:bI ka d f qb=true):bI f qb ka d=false:=by
 rcases eu h with h | ⟨rfl,h⟩
 · have h1:=eK _ _ h;have h2:¬f=ka:=fun e=>by rw [e,b9] at h;cases h
   unfold bI;simp [h1,h2]
 · unfold bI;have:¬d<qb:=by omega
   simp [b9,this]
theorem fw {g n f:ByteArray} {qa m d:Int} (h:bI g qa n m=true) (k:bI n m f d=true):bI g qa f d=true:=by
 unfold bI;rcases eu h with h | ⟨rfl,h⟩
 · rcases eu k with k | ⟨rfl,k⟩
   · simp [cw _ _ _ h k]
   · simp [h]
 · rcases eu k with k | ⟨rfl,k⟩
   · simp [k]
   · have:d<qa:=by omega
     simp [this]
theorem r9 (g f:ByteArray) (d qb:Int):(bI g d f qb || bI f qb g d)=(decide (¬g=f) || decide (¬d=qb)):=by
 by_cases n:g=f
 · subst n;unfold bI;rw [b9];by_cases h1:qb<d
   · have:¬d=qb:=by omega
     simp [h1,this]
   · by_cases h2:d<qb
     · have:¬d=qb:=by omega
       simp [h2,this]
     · have:d=qb:=by omega
       simp [this]
 · have m:g.data.toList≠f.data.toList:=fun e=>n (GX (GS.1 e))
   unfold bI;rcases iD _ _ m with h | h <;> simp [h,n]
end Go.Proofs.YtpobkmjicbobdaaGreat
namespace Go.Proofs.YtpobkmjicbobdaaGreat
open Go.RowKit
def D3 (h:Nat) (b:UInt8):Nat:=(31*h+b.toNat) % 65521
def jy (l:List UInt8):Nat:=l.foldl D3 7
def yj (h:Nat):Nat:=2 ^ (h % 16) ||| 2 ^ (h / 16 % 16)
def iz (s:ByteArray):Nat:=yj (jy s.data.toList)
theorem sD (s:ByteArray) (k:Nat) (h:k<s.size):jy (s.data.toList.take (k+1))=D3 (jy (s.data.toList.take k)) s[k]:=by
 rw [nT s k h];simp [jy]
theorem f8 {a:Nat} (h:a<16):2 ^ a<65536:=by
 have:2 ^ a<2 ^ 16:=Nat.pow_lt_pow_right (by omega) h;exact this
theorem iN {a b:Nat} (ha:a<65536) (hb:b<65536):a ||| b<65536:=Nat.or_lt_two_pow (n:=16) ha hb
theorem BG (h:Nat):yj h<65536:=iN (f8 (Nat.mod_lt _ (by omega))) (f8 (Nat.mod_lt _ (by omega)))
theorem pN (s:ByteArray):iz s<65536:=BG _
theorem Dr (a b i:Nat):(a ||| b) / 2 ^ i=(a ||| b) / 2 ^ (i+1)*2+(if a / 2 ^ i % 2=1∨b / 2 ^ i % 2=1 then 1 else 0):=by
 have h1:(a ||| b).testBit i=(a.testBit i || b.testBit i):=Nat.testBit_or ..;rw [Nat.testBit_eq_decide_div_mod_eq,Nat.testBit_eq_decide_div_mod_eq,Nat.testBit_eq_decide_div_mod_eq] at h1;have h2:(a ||| b) / 2 ^ (i+1)=(a ||| b) / 2 ^ i / 2:=by rw [Nat.pow_succ,Nat.div_div_eq_div_mul]
 rw [h2];by_cases h3:a / 2 ^ i % 2=1∨b / 2 ^ i % 2=1
 · rw [if_pos h3];have:(a ||| b) / 2 ^ i % 2=1:=by
    have:decide ((a ||| b) / 2 ^ i % 2=1)=true:=by rw [h1];simpa using h3
    exact of_decide_eq_true this
   omega
 · rw [if_neg h3];have:¬(a ||| b) / 2 ^ i % 2=1:=by
    have:decide ((a ||| b) / 2 ^ i % 2=1)=false:=by
     rw [h1];have h4:¬a / 2 ^ i % 2=1:=fun e=>h3 (Or.inl e)
     have h5:¬b / 2 ^ i % 2=1:=fun e=>h3 (Or.inr e)
     simp [h4,h5]
    exact of_decide_eq_false this
   omega
def du (L:List ae):Nat:=L.foldl (fun m e=>m ||| iz e.1) 0
theorem pL {L:List ae} {k:Nat} {e:ae} (h:L[k]?=some e):du (L.take (k+1))=du (L.take k) ||| iz e.1:=by
 rw [FU,h];simp [du]
theorem ml (L:List ae):du L<65536:=by
 have:∀(L:List ae) (m:Nat),m<65536→L.foldl (fun m e=>m ||| iz e.1) m<65536:=by
  intro L;induction L with
  | nil=>intro m h;exact h
  | cons a r d=>intro m h;exact d _ (iN h (pN _))
 exact this L 0 (by omega)
def lE (L:List ae) (j:Nat):Bool :=
 match L[j]? with
 | none=>true
 | some e=>dm e.1 e.2.1 e.2.2.1 e.2.2.2.1 e.2.2.2.2 && (match j with | 0=>true | i+1=>match L[i]? with | none=>true | some d=>bI d.1 d.2.1 e.1 e.2.1)
def aJ (L:List ae):Bool:=(List.range L.length).all (lE L)
def jx (L:List ae) (k:Nat):Prop:=∀j,j<k→lE L j=true
theorem mc {L:List ae} {k:Nat} (h:jx L k) (hk:L.length≤k):aJ L=true:=by
 unfold aJ;rw [FZ];intro j d;exact h j (by have:=Gh.1 d;omega)
theorem me {L:List ae} {k:Nat} (hk:k<L.length) (h:lE L k=false):aJ L=false:=by
 rw [GU];intro h1;unfold aJ at h1;rw [FZ] at h1;rw [h1 k (Gh.2 hk)] at h;cases h
theorem je {L:List ae} {k:Nat} (h:jx L k) (hk:lE L k=true):jx L (k+1):=by
 intro j d;by_cases e:j=k
 · rw [e];exact hk
 · exact h j (by omega)
theorem kJ {L:List ae} {e:ae} (h:L[0]?=some e):lE L 0=dm e.1 e.2.1 e.2.2.1 e.2.2.2.1 e.2.2.2.2:=by
 unfold lE;rw [h];simp
theorem iO {L:List ae} {i:Nat} {d e:ae} (h:L[i+1]?=some e) (g:L[i]?=some d):lE L (i+1)=(dm e.1 e.2.1 e.2.2.1 e.2.2.2.1 e.2.2.2.2 && bI d.1 d.2.1 e.1 e.2.1):=by
 unfold lE;simp only [h,g]
theorem pH {L:List ae} {k:Nat} {e:ae} (h:L[k]?=some e) (g:dm e.1 e.2.1 e.2.2.1 e.2.2.2.1 e.2.2.2.2=false):lE L k=false:=by
 unfold lE;rw [h];simp [g]
def cF (L:List ae) (m:Int):Bool:=decide (1≤L.length) && (decide (L.length≤150) && (aJ L && decide (m=du L)))
theorem uD {L:List ae} {m:Int} (h:L.length<1):cF L m=false:=by
 have:decide (1≤L.length)=false:=decide_eq_false (by omega);simp [cF,this]
theorem rS {L:List ae} {m:Int} (h:150<L.length):cF L m=false:=by
 have:decide (L.length≤150)=false:=decide_eq_false (by omega);simp [cF,this]
theorem pz {L:List ae} {m:Int} (h:aJ L=false):cF L m=false:=by simp [cF,h]
theorem rP {L:List ae} {m:Int} (h1:1≤L.length) (h2:L.length≤150) (h3:aJ L=true):cF L m=decide (m=du L):=by
 simp [cF,h1,h2,h3]
end Go.Proofs.YtpobkmjicbobdaaGreat
namespace Go.Proofs.YtpobkmjicbobdaaGreat
open Go.RowKit
theorem uG {L:List ae} (h:aJ L=true) (j:Nat) (d:j<L.length):lE L j=true:=by
 unfold aJ at h;rw [FZ] at h;exact h j (Gh.2 d)
theorem d9 {L:List ae} (h:aJ L=true) {j:Nat} {e:ae} (d:L[j]?=some e):dm e.1 e.2.1 e.2.2.1 e.2.2.2.1 e.2.2.2.2=true:=by
 have h1:=uG h j (E'.1 d).1;cases g:dm e.1 e.2.1 e.2.2.1 e.2.2.2.1 e.2.2.2.2 with
 | true=>rfl
 | false=>rw [pH d g] at h1;cases h1
theorem wH {L:List ae} (h:aJ L=true) {j:Nat} {d e:ae} (hd:L[j]?=some d) (f:L[j+1]?=some e):bI d.1 d.2.1 e.1 e.2.1=true:=by
 have h1:=uG h (j+1) (E'.1 f).1;rw [iO f hd] at h1;simp at h1;exact h1.2
theorem ft {L:List ae} (h:aJ L=true) {i j:Nat} (g:i<j) {d e:ae} (hd:L[i]?=some d) (f:L[j]?=some e):bI d.1 d.2.1 e.1 e.2.1=true:=by
 induction j generalizing e with
 | zero=>omega
 | succ j m =>
  have n:j<L.length:=by have:=(E'.1 f).1;omega
  have hg:L[j]?=some L[j]:=j' n;have hn:=wH h hg f;by_cases e1:i=j
  · subst e1;rw [hg] at hd;cases hd;exact hn
  · exact fw (m (by omega) hg) hn
theorem mv {k t:ByteArray} {q d n:Int} (h:dm k q d t n=true):1≤q∧q≤100000:=by
 simp [dm] at h;exact ⟨h.2.1,h.2.2.1⟩
theorem bF {L:List ae} {m:Int} (h:cF L m=true):1≤L.length∧L.length≤150∧aJ L=true∧m=du L:=by
 simpa [cF] using h
def aR (L:List ae) (key:ByteArray) (seq:Int):List ae:=L.filter (fun e=>decide (e.1=key) && decide (e.2.1≤seq))
theorem tL {L:List ae} (h:aJ L=true) {key:ByteArray} {seq:Int} {i j:Nat} (hi:i≤L.length) (o:j≤L.length)
 (i1:∀p e,L[p]?=some e→p<i→bI e.1 e.2.1 key seq=true) (i2:∀p e,L[p]?=some e→i≤p→bI e.1 e.2.1 key seq=false)
 (j1:∀p e,L[p]?=some e→p<j→bI e.1 e.2.1 key 0=true) (j2:∀p e,L[p]?=some e→j≤p→bI e.1 e.2.1 key 0=false) :
 i≤j∧aR L key seq=(L.drop i).take (j - i):=by
 have f:i≤j:=by
  by_cases h1:i≤j
  · exact h1
  · exfalso
    have m:j<L.length:=by omega
    have g:=j' m;have a:=i1 j _ g (by omega);have b:=j2 j _ g (Fv _);have c:=mv (d9 h g);rcases eu a with a | ⟨a,n⟩
    · unfold bI at b;rw [a] at b;simp at b
    · unfold bI at b;have:decide ((0:Int)<L[j].2.1)=true:=decide_eq_true (by omega);rw [this] at b;simp [a] at b
 refine ⟨f,?_⟩;have split:L=L.take i++((L.drop i).take (j - i)++L.drop j):=by
  have:(L.drop i).drop (j - i)=L.drop j:=by rw [GP];congr 1;omega
  rw [← this,FX,FX]
 unfold aR;have f1:(L.take i).filter (fun e=>decide (e.1=key) && decide (e.2.1≤seq))=[]:=by
  rw [GC];intro e d;obtain ⟨p,hp,rfl⟩:=F7 d;simp at hp;have g:L[p]?=some L[p]:=j' (by omega);have a:=i1 p _ g (by omega);simp only [Gn];rcases eu a with a | ⟨a,n⟩
  · have:¬L[p].1=key:=fun e=>by rw [e,b9] at a;cases a
    simp [this]
  · have:¬L[p].2.1≤seq:=by omega
    simp [this]
 have f3:(L.drop j).filter (fun e=>decide (e.1=key) && decide (e.2.1≤seq))=[]:=by
  rw [GC];intro e d;obtain ⟨p,hp,rfl⟩:=F7 d;simp at hp;have g:L[j+p]?=some (L[j+p]'(by omega)):=j' (by omega);have b:=j2 (j+p) _ g (by omega);have c:=mv (d9 h g);simp only [Gr];have:¬(L[j+p]'(by omega)).1=key:=fun e=>by
   unfold bI at b;have:decide ((0:Int)<(L[j+p]'(by omega)).2.1)=true:=decide_eq_true (by omega);rw [this,e,b9] at b;simp at b
  simp [this]
 have f2:((L.drop i).take (j - i)).filter (fun e=>decide (e.1=key) && decide (e.2.1≤seq))=(L.drop i).take (j - i):=by
  rw [List.filter_eq_self];intro e d;obtain ⟨p,hp,rfl⟩:=F7 d;simp at hp;have hq:i+p<L.length:=by omega
  have g:L[i+p]?=some (L[i+p]'hq):=j' hq;have a:=i2 (i+p) _ g (by omega);have b:=j1 (i+p) _ g (by omega);simp only [Gn,Gr];have hk:(L[i+p]'hq).1=key:=by
   rcases eu b with b | ⟨b,_⟩
   · exfalso
     unfold bI at a;rw [b] at a;simp at a
   · exact b
  have hs:(L[i+p]'hq).2.1≤seq:=by
   unfold bI at a;rw [hk,b9] at a;simp at a;exact a
  simp [hk,hs]
 rw [split,Gt,Gt,f1,f2,f3];rw [← split];simp
theorem iH {L:List ae} {key:ByteArray} {seq:Int} {k:Nat} {e:ae} (h:L[k]?=some e) (h1:e.1=key) (h2:e.2.1≤seq):aR (L.take (k+1)) key seq=aR (L.take k) key seq++[e]:=by
 rw [FU,h];simp [aR,h1,h2]
theorem fj {L:List ae} {key:ByteArray} {seq:Int} {k:Nat} {e:ae} (h:L[k]?=some e) (h1:¬(e.1=key∧e.2.1≤seq)):aR (L.take (k+1)) key seq=aR (L.take k) key seq:=by
 rw [FU,h];simp only [aR,Gt,Option.toList_some];have:List.filter (fun e=>decide (e.1=key) && decide (e.2.1≤seq)) [e]=[]:=by
  rw [GC];intro x hx;simp only [FL] at hx;subst hx;simp only [FJ,decide_eq_true_eq];exact h1
 rw [this,GR]
theorem iU (L:List ae) (key:ByteArray) (seq:Int):(aR L key seq).length≤L.length:=Hw _ _
theorem qr {L:List ae} {key:ByteArray} {seq:Int} {e:ae} (h:e ∈ aR L key seq):e ∈ L:=(Hj.1 h).1
end Go.Proofs.YtpobkmjicbobdaaGreat
namespace Go.Proofs.YtpobkmjicbobdaaGreat
set_option maxRecDepth 100000
set_option maxHeartbeats 40000000
open Go.ChangeShapes Go.Deep Go.Joins Go.RowKit Go.WideShapes
variable {L M:List ae} {S:List Int} {W w w' wr:World} {ak am av:Option Addr} {b cap cm cs cv k len lo lo' nm ns nv off:Nat} {e:ae} {q s:Int}
theorem vw {d:World} (hb:Bl W d):(∀b o,b<W.heap.size→d.cell? ⟨b,o,none⟩=W.cell? ⟨b,o,none⟩)∧(∀b o,b<W.heap.size→d.frozen? ⟨b,o,none⟩=W.frozen? ⟨b,o,none⟩) :=
 ⟨fun b o h=>hb.cell (p:=⟨b,o,none⟩) h,fun b o h=>hb.frozen (p:=⟨b,o,none⟩) h⟩
def dR (e:ae):Prop:=e.1.size≤maxLen∧(Lit.int .i64 e.2.1).wf=true∧(Lit.int .i64 e.2.2.1).wf=true∧e.2.2.2.1.size≤maxLen∧(Lit.int .i64 e.2.2.2.2).wf=true
def jX (w:World) (b o:Nat) (e:ae):Prop:=w.cell? ⟨b,o,none⟩=some (.string e.1)∧w.cell? ⟨b,o+1,none⟩=some (iT e.2.1)∧w.cell? ⟨b,o+2,none⟩=some (iT e.2.2.1)∧w.cell? ⟨b,o+3,none⟩=some (.string e.2.2.2.1)∧w.cell? ⟨b,o+4,none⟩=some (iT e.2.2.2.2)
theorem jX.moved {o:Nat} (h:jX w b o e) (hc:∀o,w'.cell? ⟨b,o,none⟩=w.cell? ⟨b,o,none⟩):jX w' b o e :=
 ⟨(hc _).trans h.1,(hc _).trans h.2.1,(hc _).trans h.2.2.1,(hc _).trans h.2.2.2.1,(hc _).trans h.2.2.2.2⟩
structure ah (w:World) (a:Option Addr) (len cap:Nat) (L:List ae):Prop where
 length:L.length=len
 room:len≤cap
 big:cap≤maxLen
 ents:∀e ∈ L,dR e
 nil:a=none→len=0
 lies:∀x,a=some x→0<len→x.block<w.heap.size∧x.spot=none
 cells:∀x,a=some x→∀i (h:i<L.length),jX w x.block (x.off+i*5) L[i]
theorem ah.moved {a:Option Addr} (h:ah w a len cap L) (hs:w.heap.size≤w'.heap.size) (hc:∀x,a=some x→0<len→∀o,w'.cell? ⟨x.block,o,none⟩=w.cell? ⟨x.block,o,none⟩):ah w' a len cap L where
 length:=h.length
 room:=h.room
 big:=h.big
 ents:=h.ents
 nil:=h.nil
 lies:=fun x e hp=>⟨u' (h.lies x e hp).1 hs,(h.lies x e hp).2⟩
 cells:=fun x e i hi=>(h.cells x e i hi).moved (hc x e (by have:=h.length;omega))
theorem ah.below {B:Nat} {a:Option Addr} (h:ah w a len cap L) (hb:Below B w w') (hB:∀x,a=some x→0<len→x.block<B):ah w' a len cap L :=
 h.moved hb.size (fun x e hp o=>hb.cell (p:=⟨x.block,o,none⟩) (hB x e hp))
theorem ah.keep {a:Option Addr} (h:ah w a len cap L) (hb:Bl w w'):ah w' a len cap L:=h.below hb (fun x e hp=>(h.lies x e hp).1)
theorem ah.setCell {a:Option Addr} (h:ah w a len cap L) (p:Addr) (u:Value) (hp:∀x,a=some x→0<len→x.block≠p.block):ah (w.setCell p u) a len cap L :=
 h.moved (by simp [World.setCell]) (fun x e hl o=>Gc (by rw [Below.heap_setCell _ _ _ _ (hp x e hl)]))
theorem ah.ent {B:Nat} (h:ah w (some ⟨b,off,none⟩) len cap L) (hb:Below B w wr) (hB:b<B) (k:Nat) (hk:k<len) :
 ∃s q d t n,L[k]?=some (s,q,d,t,n)∧dR (s,q,d,t,n)∧wr.cell? ⟨b,off+k*5,none⟩=some (.string s)∧wr.cell? ⟨b,off+k*5+1,none⟩=some (iT q)∧wr.cell? ⟨b,off+k*5+2,none⟩=some (iT d)∧wr.cell? ⟨b,off+k*5+3,none⟩=some (.string t)∧wr.cell? ⟨b,off+k*5+4,none⟩=some (iT n):=by
 have f:k<L.length:=by rw [h.length];exact hk
 obtain ⟨c0,c1,c2,c3,c4⟩:=(h.cells _ rfl k f).moved (fun o=>hb.cell (p:=⟨b,o,none⟩) hB);exact ⟨L[k].1,L[k].2.1,L[k].2.2.1,L[k].2.2.2.1,L[k].2.2.2.2,j' f,h.ents _ (F8 f),c0,c1,c2,c3,c4⟩
theorem ah.form {a:Option Addr} (h:ah w a len cap L) (hl:1≤len):∃b off,a=some ⟨b,off,none⟩∧b<w.heap.size:=by
 cases a with
 | none=>have:=h.nil rfl;omega
 | some x =>
  obtain ⟨b,off,d⟩:=x;obtain ⟨h1,h2⟩:=h.lies _ rfl (by omega);simp only at h1 h2;subst h2;exact ⟨b,off,rfl,h1⟩
theorem Tryz.infoInt:(Tryz.prog.info? 3).map (fun i=>(i.zero,i.size,i.bytes))=some (some (iT 0),1,8):=by kernel_rfl
def iq (lo:Nat) (w w':World):Prop:=w.heap.size≤w'.heap.size∧∀b o,lo≤b→b<w.heap.size→w'.cell? ⟨b,o,none⟩=w.cell? ⟨b,o,none⟩
theorem iq.of_below (hb:Bl w w'):iq lo w w':=⟨hb.size,fun b o _ h=>hb.cell (p:=⟨b,o,none⟩) h⟩
theorem iq.of_set (p:Addr) (u:Value) (h:p.block<lo):iq lo w (w.setCell p u) :=
 ⟨by simp [World.setCell],fun b o hb _=>Gc (by rw [Below.heap_setCell _ _ _ _ (by simp only;omega)])⟩
theorem iq.trans {w'':World} (h:iq lo w w') (h':iq lo w' w''):iq lo w w'' :=
 ⟨FK h.1 h'.1,fun b o hb hl=>(h'.2 b o hb (u' hl h.1)).trans (h.2 b o hb hl)⟩
structure b6 (lo:Nat) (w:World) (a:Option Addr) (len cap:Nat) (S:List Int):Prop where
 length:S.length=len
 room:len≤cap
 big:cap≤maxLen
 wfs:∀q ∈ S,(Lit.int .i64 q).wf=true
 nil:a=none→len=0
 lies:∀x,a=some x→0<len→x.block<w.heap.size∧x.spot=none∧lo≤x.block
 cells:∀x,a=some x→∀i (h:i<S.length),w.cell? ⟨x.block,x.off+i,none⟩=some (iT S[i])
theorem b6.same {a:Option Addr} (h:b6 lo w a len cap S) (hs:iq lo w w'):b6 lo w' a len cap S where
 length:=h.length
 room:=h.room
 big:=h.big
 wfs:=h.wfs
 nil:=h.nil
 lies:=fun x e hp=>⟨u' (h.lies x e hp).1 hs.1,(h.lies x e hp).2⟩
 cells:=fun x e i hi=>by
  obtain ⟨hx,_,d⟩:=h.lies x e (by have:=h.length;omega)
  exact (hs.2 _ _ d hx).trans (h.cells x e i hi)
theorem b6.keep {a:Option Addr} (h:b6 lo w a len cap S) (hb:Bl w w'):b6 lo w' a len cap S:=h.same (iq.of_below hb)
theorem b6.lower {a:Option Addr} (h:b6 lo w a len cap S) (hl:lo'≤lo):b6 lo' w a len cap S :=
 ⟨h.length,h.room,h.big,h.wfs,h.nil,fun x e hp=>⟨(h.lies x e hp).1,(h.lies x e hp).2.1,FK hl (h.lies x e hp).2.2⟩,h.cells⟩
theorem b6.form {a:Option Addr} (h:b6 lo w a len cap S) (hl:1≤len):∃b off,a=some ⟨b,off,none⟩∧b<w.heap.size:=by
 cases a with
 | none=>have:=h.nil rfl;omega
 | some x =>
  obtain ⟨b,off,d⟩:=x;obtain ⟨h1,h2,_⟩:=h.lies _ rfl (by omega);simp only at h1 h2;subst h2;exact ⟨b,off,rfl,h1⟩
theorem b6.num (h:b6 lo w (some ⟨b,off,none⟩) len cap S) (hb:Bl w wr) (k:Nat) (hk:k<len) :
 ∃q,S[k]?=some q∧(Lit.int .i64 q).wf=true∧wr.cell? ⟨b,off+k,none⟩=some (iT q):=by
 have d:k<S.length:=by rw [h.length];exact hk
 exact ⟨S[k],j' d,h.wfs _ (F8 d),(h.keep hb).cells _ rfl k d⟩
theorem Bu {a:Addr} (h:a.spot=none) (j:Nat):a.add j=⟨a.block,a.off+j,none⟩:=by
 obtain ⟨b,o,d⟩:=a;simp only at h;subst h;exact add_plain _ _ _
theorem open_ints {H:Type} {enc:TypeId × Value→H} {base E:Nat} {v:Value} {x:DataW H × List MemPlace} {held:Bool}
 (hf:DataW.trod enc Tryz.prog W base (fun _=>true) held E 24 [v]=some x) :
 ∃(a:Option Addr) (len cap:Nat) (S:List Int),v=.slice a len cap∧b6 0 W a len cap S:=by
 have r5:Tryz.prog.cellsOf 3=1:=by kernel_rfl
 rcases Deep.open_slice Tryz.underlying24 hf with ⟨d,_⟩ | ⟨a,len,cap,B,n,D,I,d,hb,hl,hm,r,_,hx⟩
 · simp at d;subst d;exact ⟨none,0,0,[],rfl,⟨rfl,Fv _,FB _,by simp,fun _=>rfl,(fun x e=>by cases e),(fun x e=>by cases e)⟩⟩
 · simp at d;subst d;simp at r;rw [r5] at hx;have each:∀i,i<B→∃q:Int,(Lit.int .i64 q).wf=true∧W.cell? (a.add i)=some (iT q):=by
    intro i hi;obtain ⟨t,A,C⟩:=hx i hi;obtain ⟨_,hlen,o⟩:=World.cells?_some A;match t,hlen with
    | [u0],_ =>
     have u:=o 0 (by omega);rw [Deep.add_add] at u;obtain ⟨q,e0,_,F⟩:=DataW.trod_int Tryz.underlying3 C;simp at e0;subst e0;exact ⟨q,F,by simpa using u⟩
   obtain ⟨f,g⟩:=Deep.choose_lt each;have m:0<len→a.spot=none:=fun hp=>by
    obtain ⟨_,c0⟩:=g 0 (by omega);simpa [Addr.add] using World.cell?_spot c0
   refine ⟨some a,len,cap,(List.range len).map f,rfl,⟨by simp,hl,hm,?_,(fun e=>by cases e),?_,?_⟩⟩
   · intro q hq;obtain ⟨i,hi,rfl⟩:=Gp.1 hq;exact (g i (by have:=Gh.1 hi;omega)).1
   · rintro x e hp;cases e;refine ⟨?_,m hp,FB _⟩;obtain ⟨_,c0⟩:=g 0 (by omega);have:=Fu _ _ c0;simpa [Addr.add] using this
   · rintro x e i hi;cases e;simp at hi;obtain ⟨_,y⟩:=g i (by omega);rw [Bu (m (by omega))] at y;simp only [List.getElem_map,List.getElem_range];exact y
abbrev aj:=List ae × Int
def fm (lo:Nat) (w:World) (a:Option Addr) (len cap:Nat) (L:List ae):Prop:=ah w a len cap L∧∀x,a=some x→0<len→lo≤x.block
theorem fm.same {a:Option Addr} (h:fm lo w a len cap L) (hs:iq lo w w'):fm lo w' a len cap L :=
 ⟨h.1.moved hs.1 (fun x e hp _=>hs.2 _ _ (h.2 x e hp) (h.1.lies x e hp).1),h.2⟩
theorem fm.mono {a:Option Addr} (h:fm lo w a len cap L) (hl:lo'≤lo):fm lo' w a len cap L:=⟨h.1,fun x e hp=>FK hl (h.2 x e hp)⟩
structure az (lo:Nat) (w:World) (a:Option Addr) (len cap:Nat) (B:List aj):Prop where
 length:B.length=len
 room:len≤cap
 big:cap≤maxLen
 nil:a=none→len=0
 lies:∀x,a=some x→0<len→x.block<w.heap.size∧x.spot=none∧lo≤x.block
 runs:∀x,a=some x→∀i (h:i<B.length),(Lit.int .i64 B[i].2).wf=true∧∃s n c,w.cell? ⟨x.block,x.off+i*2,none⟩=some (.slice s n c)∧w.cell? ⟨x.block,x.off+i*2+1,none⟩=some (iT B[i].2)∧fm lo w s n c B[i].1
theorem az.same {a:Option Addr} {B:List aj} (h:az lo w a len cap B) (hs:iq lo w w'):az lo w' a len cap B where
 length:=h.length
 room:=h.room
 big:=h.big
 nil:=h.nil
 lies:=fun x e hp=>⟨u' (h.lies x e hp).1 hs.1,(h.lies x e hp).2⟩
 runs:=fun x e i hi=>by
  obtain ⟨hx,_,d⟩:=h.lies x e (by have:=h.length;omega)
  obtain ⟨hw,s,n,c,c0,c1,hL⟩:=h.runs x e i hi
  exact ⟨hw,s,n,c,(hs.2 _ _ d hx).trans c0,(hs.2 _ _ d hx).trans c1,hL.same hs⟩
theorem az.keep {a:Option Addr} {B:List aj} (h:az lo w a len cap B) (hb:Bl w w'):az lo w' a len cap B:=h.same (iq.of_below hb)
theorem az.mono {a:Option Addr} {B:List aj} (h:az lo w a len cap B) (hl:lo'≤lo):az lo' w a len cap B :=
 ⟨h.length,h.room,h.big,h.nil,fun x e hp=>⟨(h.lies x e hp).1,(h.lies x e hp).2.1,FK hl (h.lies x e hp).2.2⟩,fun x e i hi=>by obtain ⟨hw,s,n,c,c0,c1,hL⟩:=h.runs x e i hi;exact ⟨hw,s,n,c,c0,c1,hL.mono hl⟩⟩
theorem az.form {a:Option Addr} {B:List aj} (h:az lo w a len cap B) (hl:1≤len):∃b off,a=some ⟨b,off,none⟩∧b<w.heap.size:=by
 cases a with
 | none=>have:=h.nil rfl;omega
 | some x =>
  obtain ⟨b,off,d⟩:=x;obtain ⟨h1,h2,_⟩:=h.lies _ rfl (by omega);simp only at h1 h2;subst h2;exact ⟨b,off,rfl,h1⟩
theorem az.run {B:List aj} (h:az lo w (some ⟨b,off,none⟩) len cap B) (hb:Bl w wr) (k:Nat) (hk:k<len) :
 ∃L m s n c,B[k]?=some (L,m)∧(Lit.int .i64 m).wf=true∧wr.cell? ⟨b,off+k*2,none⟩=some (.slice s n c)∧wr.cell? ⟨b,off+k*2+1,none⟩=some (iT m)∧fm lo wr s n c L:=by
 have d:k<B.length:=by rw [h.length];exact hk
 obtain ⟨hw,s,n,c,c0,c1,hL⟩:=(h.keep hb).runs _ rfl k d;exact ⟨B[k].1,B[k].2,s,n,c,j' d,hw,c0,c1,hL⟩
theorem az.wfs {a:Option Addr} {B:List aj} (h:az lo w a len cap B):∀p ∈ B,(Lit.int .i64 p.2).wf=true:=by
 intro p hp;obtain ⟨j,d,rfl⟩:=F7 hp;obtain ⟨b,off,rfl,_⟩:=h.form (by have:=h.length;omega);exact (h.runs _ rfl j d).1
theorem ww (lo:Nat) (w:World):az lo w none 0 0 []:=⟨rfl,Fv _,FB _,fun _=>rfl,(fun x e=>by cases e),(fun x e=>by cases e)⟩
structure cX (lo:Nat) (w:World) (a:Option Addr) (len cap:Nat) (V:List (List aj)):Prop where
 length:V.length=len
 room:len≤cap
 big:cap≤maxLen
 nil:a=none→len=0
 lies:∀x,a=some x→0<len→x.block<w.heap.size∧x.spot=none∧lo≤x.block
 levels:∀x,a=some x→∀i (h:i<V.length),∃s n c,w.cell? ⟨x.block,x.off+i,none⟩=some (.slice s n c)∧az lo w s n c V[i]
theorem cX.same {a:Option Addr} {V:List (List aj)} (h:cX lo w a len cap V) (hs:iq lo w w'):cX lo w' a len cap V where
 length:=h.length
 room:=h.room
 big:=h.big
 nil:=h.nil
 lies:=fun x e hp=>⟨u' (h.lies x e hp).1 hs.1,(h.lies x e hp).2⟩
 levels:=fun x e i hi=>by
  obtain ⟨hx,_,d⟩:=h.lies x e (by have:=h.length;omega)
  obtain ⟨s,n,c,c0,hL⟩:=h.levels x e i hi
  exact ⟨s,n,c,(hs.2 _ _ d hx).trans c0,hL.same hs⟩
theorem cX.keep {a:Option Addr} {V:List (List aj)} (h:cX lo w a len cap V) (hb:Bl w w'):cX lo w' a len cap V:=h.same (iq.of_below hb)
theorem cX.mono {a:Option Addr} {V:List (List aj)} (h:cX lo w a len cap V) (hl:lo'≤lo):cX lo' w a len cap V :=
 ⟨h.length,h.room,h.big,h.nil,fun x e hp=>⟨(h.lies x e hp).1,(h.lies x e hp).2.1,FK hl (h.lies x e hp).2.2⟩,fun x e i hi=>by obtain ⟨s,n,c,c0,hL⟩:=h.levels x e i hi;exact ⟨s,n,c,c0,hL.mono hl⟩⟩
theorem cX.form {a:Option Addr} {V:List (List aj)} (h:cX lo w a len cap V) (hl:1≤len):∃b off,a=some ⟨b,off,none⟩∧b<w.heap.size:=by
 cases a with
 | none=>have:=h.nil rfl;omega
 | some x =>
  obtain ⟨b,off,d⟩:=x;obtain ⟨h1,h2,_⟩:=h.lies _ rfl (by omega);simp only at h1 h2;subst h2;exact ⟨b,off,rfl,h1⟩
theorem cX.level {V:List (List aj)} (h:cX lo w (some ⟨b,off,none⟩) len cap V) (hb:Bl w wr) (k:Nat) (hk:k<len) :
 ∃B s n c,V[k]?=some B∧wr.cell? ⟨b,off+k,none⟩=some (.slice s n c)∧az lo wr s n c B:=by
 have d:k<V.length:=by rw [h.length];exact hk
 obtain ⟨s,n,c,c0,hL⟩:=(h.keep hb).levels _ rfl k d;exact ⟨V[k],s,n,c,j' d,c0,hL⟩
structure cj (lo:Nat) (w:World) (am:Option Addr) (nm cm:Nat) (av:Option Addr) (nv cv:Nat) (ak:Option Addr) (ns cs:Nat) (M:List ae) (V:List (List aj)) (S:List Int):Prop where
 mem:fm lo w am nm cm M
 levels:cX lo w av nv cv V
 snaps:b6 lo w ak ns cs S
theorem cj.same {V:List (List aj)} (h:cj lo w am nm cm av nv cv ak ns cs M V S) (hs:iq lo w w'):cj lo w' am nm cm av nv cv ak ns cs M V S:=⟨h.mem.same hs,h.levels.same hs,h.snaps.same hs⟩
theorem cj.keep {V:List (List aj)} (h:cj lo w am nm cm av nv cv ak ns cs M V S) (hb:Bl w w'):cj lo w' am nm cm av nv cv ak ns cs M V S:=h.same (iq.of_below hb)
def bX (M:List ae) (q:Int):Bool:=M.all (fun e=>decide (e.2.1≤q))
theorem tX (h:bX (M.take k) q=true) (hk:M[k]?=some e) (d:e.2.1≤q):bX (M.take (k+1)) q=true:=by
 unfold bX at h ⊢;rw [FU,hk];simp only [Option.toList,List.all_append,h,List.all_cons,List.all_nil,Bool.and_true,Bool.true_and];exact decide_eq_true d
theorem yP (hk:M[k]?=some e) (d:¬e.2.1≤q):bX M q=false:=by
 unfold bX;rw [GU];intro h;rw [FZ] at h;exact d (of_decide_eq_true (h e (Fw hk)))
def cV (S:List Int) (q:Int) (i:Nat):Bool :=
 match S[i]? with
 | none=>true
 | some s=>decide (0≤s) && (decide (s≤q) && (match i with | 0=>true | j+1=>match S[j]? with | none=>true | some p=>decide (p<s)))
def ju (S:List Int) (q:Int) (k:Nat):Prop:=∀j,j<k→cV S q j=true
def cC (S:List Int) (q:Int):Bool:=decide (S.length≤4) && (List.range S.length).all (cV S q)
theorem wh (h:4<S.length):cC S q=false:=by
 unfold cC;rw [decide_eq_false (by omega)];rfl
theorem iL (hk:k<S.length) (h:cV S q k=false):cC S q=false:=by
 unfold cC;rw [Hx];right
 rw [GU];intro h1;rw [FZ] at h1;rw [h1 k (Gh.2 hk)] at h;cases h
theorem rK (h:ju S q S.length):cC S q=decide (S.length≤4):=by
 unfold cC;have:(List.range S.length).all (cV S q)=true:=by
  rw [FZ];intro j d;exact h j (Gh.1 d)
 rw [this,Bool.and_true]
theorem ja (h:ju S q k) (hk:cV S q k=true):ju S q (k+1):=by
 intro j d;by_cases e:j=k
 · subst e;exact hk
 · exact h j (by omega)
theorem mO (h:S[0]?=some s):cV S q 0=(decide (0≤s) && decide (s≤q)):=by
 unfold cV;rw [h];simp
theorem ki {p:Int} {j:Nat} (h:S[j+1]?=some s) (hp:S[j]?=some p):cV S q (j+1)=(decide (0≤s) && (decide (s≤q) && decide (p<s))):=by
 unfold cV;simp only [h,hp]
theorem uA (h:S[k]?=some s) (hs:s<0):cV S q k=false:=by
 unfold cV;rw [h];simp only;rw [decide_eq_false (by omega)];rfl
theorem rL (h:S[k]?=some s) (hs:q<s):cV S q k=false:=by
 unfold cV;rw [h];simp only;rw [decide_eq_false (p:=s≤q) (by omega)];simp
end Go.Proofs.YtpobkmjicbobdaaGreat
