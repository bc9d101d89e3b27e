/- Walks. -/
import Derived.Test.YtpobkmjicbobdaaGreatBn11
import Derived.Sort.Defs
namespace Go.Proofs.YtpobkmjicbobdaaGreat
namespace Sq
variable {α κ:Type} [DecidableEq κ]
def putP (r:α→α→Bool) (x:α):List (List α)→List (List α)
 | (y :: c) :: cs=>if r x y then (x :: y :: c) :: cs else [x] :: (y :: c) :: cs
 | cs=>[x] :: cs
def parts (r:α→α→Bool) (L:List α):List (List α):=L.foldr (putP r) []
theorem parts_cons (r:α→α→Bool) (x:α) (L:List α):parts r (x :: L)=putP r x (parts r L):=rfl
theorem om (r:α→α→Bool) (x:α) (L:List α):∃c cs,parts r (x :: L)=(x :: c) :: cs:=by
 rw [parts_cons];unfold putP;split
 · rename_i y c cs _
   by_cases h:r x y
   · exact ⟨y :: c,cs,by rw [if_pos h]⟩
   · exact ⟨[],(y :: c) :: cs,by rw [if_neg h]⟩
 · exact ⟨[],_,rfl⟩
theorem parts_flat (r:α→α→Bool):∀L:List α,(parts r L).flatten=L
 | []=>rfl
 | x :: L=>by
  rw [parts_cons]
  have ih:=parts_flat r L
  unfold putP
  split
  · rename_i y c cs h
    rw [h] at ih
    by_cases hr:r x y
    · rw [if_pos hr];simpa using ih
    · rw [if_neg hr];simpa using ih
  · simpa using ih
variable (key:α→κ) (cl:Bool→List α→List α) (bottom:Bool)
def stepD (c:List α) (st:Bool × List α):Bool × List α:=(if (cl st.1 c).isEmpty then st.1 else false,cl st.1 c++st.2)
def leftD (Cs:List (List α)):List α:=(Cs.foldr (stepD cl) (bottom,[])).2
end Sq
namespace Sq
variable {α:Type}
theorem qr (r:α→α→Bool):∀A B:List α,(∀x y,A.getLast?=some x→B.head?=some y→r x y=false)→parts r (A++B)=parts r A++parts r B
 | [],B,_=>rfl
 | [x],B,h=>by
  match B with
  | []=>rfl
  | y :: R =>
   obtain ⟨c,cs,hp⟩:=om r y R
   have hr:=h x y rfl rfl
   rw [List.singleton_append,parts_cons,hp]
   simp [putP,hr,parts]
 | x :: z :: A,B,h=>by
  have ih:=qr r (z :: A) B (fun a b ha hb=>h a b (by rw [List.getLast?_cons_cons];exact ha) hb)
  obtain ⟨c,cs,hp⟩:=om r z A
  rw [List.cons_append,parts_cons,ih,parts_cons r x,hp]
  by_cases e:r x z <;> simp [putP,e]
theorem mI (r:α→α→Bool):∀A:List α,A≠[]→(∀(j:Nat) x y,A[j]?=some x→A[j+1]?=some y→r x y=true)→parts r A=[A]
 | [],h,_=>absurd rfl h
 | [x],_,_=>rfl
 | x :: z :: A,_,h=>by
  have ih:=mI r (z :: A) (by simp) (fun j a b ha hb=>h (j+1) a b (by simpa using ha) (by simpa using hb))
  have hr:=h 0 x z rfl rfl
  rw [parts_cons,ih]
  simp [putP,hr]
theorem parts_front (r:α→α→Bool) (L:List α) (i k:Nat) (hik:i<k) (hk:k≤L.length) (h1:∀j,i<j→j<k→∀x y,L[j - 1]?=some x→L[j]?=some y→r x y=true)
 (h2:∀x y,L[k - 1]?=some x→L[k]?=some y→r x y=false):parts r (L.drop i)=(L.drop i).take (k - i) :: parts r (L.drop k):=by
 have e:L.drop i=(L.drop i).take (k - i)++L.drop k:=by
  have:=(List.take_append_drop (k - i) (L.drop i)).symm;rw [List.drop_drop,show i+(k - i)=k by omega] at this;exact this
 have hl:((L.drop i).take (k - i)).length=k - i:=by rw [List.length_take,List.length_drop];omega
 conv=>lhs;rw [e]
 rw [qr,mI]
 · rfl
 · intro e;rw [e] at hl;simp at hl;omega
 · intro j x y hx hy;have hj:j+1<k - i:=by rw [← hl];exact (List.getElem?_eq_some_iff.1 hy).1
   rw [List.getElem?_take_of_lt (by omega),List.getElem?_drop] at hx hy;exact h1 (i+(j+1)) (by omega) (by omega) x y (by rw [show i+(j+1) - 1=i+j by omega];exact hx) hy
 · intro x y hx hy;rw [List.getLast?_eq_getElem?,hl,List.getElem?_take_of_lt (by omega),List.getElem?_drop,show i+(k - i - 1)=k - 1 by omega] at hx;rw [List.head?_drop] at hy;exact h2 x y hx hy
end Sq
end Go.Proofs.YtpobkmjicbobdaaGreat
namespace Go.Proofs.YtpobkmjicbobdaaGreat
def lN (b:Bool):List ac→List ac
 | []=>[]
 | e :: r=>dP b e.1 e.2.1 (e :: r)
def fW (S:List Int) (x y:ac):Bool:=!fi S y.2.1 x.2.1
def eR (x y:ac):Bool:=decide (x.1=y.1)
def eF (S:List Int) (bottom:Bool) (G:List ac):List ac:=Sq.leftD lN bottom (Sq.parts (fW S) G)
def bI (L:List ac) (S:List Int) (bottom:Bool):List ac:=if aR L=true then (Sq.parts eR L).flatMap (eF S bottom) else []
theorem tD {c:List ac} {e:ac} (b:Bool) (h:c[0]?=some e):lN b c=dP b e.1 e.2.1 c:=by
 match c,h with
 | x :: r,h=>simp at h;subst h;rfl
theorem vE (b:Bool):∀c:List ac,(lN b c).length≤c.length
 | []=>Nat.le_refl _
 | e :: r=>by
  show (dP b e.1 e.2.1 (e :: r)).length≤(e :: r).length
  unfold dP
  by_cases h1:dO (aY true 0 (e :: r)).2.2=true
  · rw [if_pos h1]
    by_cases h2:b=true∧(aY true 0 (e :: r)).1=2
    · rw [if_pos h2];simp
    · rw [if_neg h2];simp
  · rw [if_neg h1];exact Nat.le_refl _
theorem oJ (bottom:Bool):∀P:List (List ac),((P.foldr (Sq.stepD lN) (bottom,[])).2).length≤P.flatten.length
 | []=>Nat.le_refl _
 | c :: P=>by
  have ih:=oJ bottom P
  have h:=vE (P.foldr (Sq.stepD lN) (bottom,[])).1 c
  rw [List.foldr_cons,List.flatten_cons,List.length_append]
  generalize P.foldr (Sq.stepD lN) (bottom,[])=st at ih h ⊢
  show (lN st.1 c++st.2).length≤_
  rw [List.length_append]
  omega
theorem mh (S:List Int) (bottom:Bool) (G:List ac):(eF S bottom G).length≤G.length:=by
 have:=oJ bottom (Sq.parts (fW S) G);rw [Sq.parts_flat] at this;exact this
theorem wU (bottom:Bool) (P:List (List ac)) (j:Nat) (c:List ac) (h:P[j]?=some c) :
 (P.drop j).foldr (Sq.stepD lN) (bottom,[])=Sq.stepD lN c ((P.drop (j+1)).foldr (Sq.stepD lN) (bottom,[])):=by
 obtain ⟨hj,e⟩:=List.getElem?_eq_some_iff.1 h;rw [List.drop_eq_getElem_cons hj,e];rfl
theorem pd (S:List Int) (bottom:Bool):∀P:List (List ac),(P.flatMap (eF S bottom)).length≤P.flatten.length
 | []=>Nat.le_refl _
 | c :: P=>by
  have ih:=pd S bottom P
  have h:=mh S bottom c
  rw [List.flatMap_cons,List.flatten_cons,List.length_append,List.length_append]
  omega
theorem ja (L:List ac) (S:List Int) (bottom:Bool):(bI L S bottom).length≤L.length:=by
 unfold bI;split
 · have:=pd S bottom (Sq.parts eR L);rwa [Sq.parts_flat] at this
 · simp
theorem ib (r:ac→ac→Bool) (L:List ac) (c:List ac) (h:c ∈ Sq.parts r L):c.length≤L.length∧∀e ∈ c,e ∈ L:=by
 have hf:=Sq.parts_flat r L;refine ⟨?_,fun e he=>by rw [← hf];exact List.mem_flatten.2 ⟨c,h,he⟩⟩;obtain ⟨A,B,e⟩:=List.append_of_mem h;rw [← hf,e];simp;omega
theorem ju (r:ac→ac→Bool):∀(L:List ac) (c:List ac),c ∈ Sq.parts r L→c≠[]
 | [],c,h=>by simp [Sq.parts] at h
 | z :: L,c,h=>by
  have ih:=ju r L
  rw [Sq.parts_cons] at h
  unfold Sq.putP at h
  split at h
  · rename_i y c' cs hp
    rw [hp] at ih
    split at h
    · rcases List.mem_cons.1 h with rfl | h
      · simp
      · exact ih c (List.mem_cons_of_mem _ h)
    · rcases List.mem_cons.1 h with rfl | h
      · simp
      · exact ih c h
  · rcases List.mem_cons.1 h with rfl | h
    · simp
    · exact ih c h
theorem uo {L:List ac} (h:aR L=true):∀e ∈ L,(-1000000≤e.2.2.2.2∧e.2.2.2.2≤1000000)∧(1≤e.2.2.1∧e.2.2.1≤3∧(e.2.2.1=2→e.2.2.2.1=⟨#[]⟩))∧e.1≠⟨#[]⟩:=by
 intro e he;obtain ⟨j,hj⟩:=List.getElem?_of_mem he;have hb:=fX h hj;unfold cX at hb;simp only [Bool.and_eq_true,decide_eq_true_eq] at hb;obtain ⟨hk,h1,h2,h3,h4,h5,h6⟩:=hb;refine ⟨⟨h3,h4⟩,?_,?_⟩
 · by_cases d1:e.2.2.1=1
   · exact ⟨by omega,by omega,fun h=>by omega⟩
   · by_cases d2:e.2.2.1=2
     · rw [d2] at h6;simp [fg] at h6;exact ⟨by omega,by omega,fun _=>h6.1⟩
     · by_cases d3:e.2.2.1=3
       · exact ⟨by omega,by omega,fun h=>by omega⟩
       · rw [ng d1 d2 d3] at h6;cases h6
 · intro e0;rw [e0] at hk;simp [fl,ByteArray.size] at hk
end Go.Proofs.YtpobkmjicbobdaaGreat
namespace Go.Proofs.YtpobkmjicbobdaaGreat
set_option maxRecDepth 100000
set_option maxHeartbeats 40000000
open Go.RowKit
section
attribute [local go_sem] Oper.semAt_some
def vF (b:Bool) (t:ByteArray) (n:Int) (d:Int) (t':ByteArray) (n':Int):io :=
 if d=1 then (true,t',n') else if d=2 then (false,⟨#[]⟩,0) else if d=3 then (true,t,wrap64 (n+n')) else (b,t,n)
end
end Go.Proofs.YtpobkmjicbobdaaGreat
namespace Go.Proofs.YtpobkmjicbobdaaGreat
open Go.RowKit
/-! The insertion sort that the library runs is this one. -/
/-! What a key has. -/
def AS (c : io) (e : ac) : io := vF c.1 c.2.1 c.2.2 e.2.2.1 e.2.2.2.1 e.2.2.2.2
end Go.Proofs.YtpobkmjicbobdaaGreat
namespace Go.Proofs.YtpobkmjicbobdaaGreat
open Go.RowKit
/-! What the laws of cells say, of lists alone. -/
def BZ (L : List ac) : Prop := L.Pairwise (fun a b => a.2.1 ≠ b.2.1)
theorem BZ.perm {A B : List ac} (h : BZ A) (p : A.Perm B) : BZ B := (p.pairwise_iff (fun h => Ne.symm h)).1 h
end Go.Proofs.YtpobkmjicbobdaaGreat
namespace Go.Proofs.YtpobkmjicbobdaaGreat
open Go.RowKit
/-! A cell is its last reset and what was added since. -/
def Fit (e : ac) : Prop := 1 ≤ e.2.1 ∧ (e.2.2.1 = 1 ∨ e.2.2.1 = 2 ∨ e.2.2.1 = 3) ∧ (e.2.2.1 = 2 → e.2.2.2.2 = 0) ∧ (-1000 ≤ e.2.2.2.2 ∧ e.2.2.2.2 ≤ 1000)
end Go.Proofs.YtpobkmjicbobdaaGreat
namespace Go.Proofs.YtpobkmjicbobdaaGreat
set_option maxRecDepth 100000
set_option maxHeartbeats 40000000
open Go.RowKit
variable {L M:List ac} {base n:Nat} {w w':World}
def ev (M : List ac) (c : io) : io := M.foldr (fun e c => AS c e) c
def noC : io := (false, ⟨#[]⟩, 0)
theorem um (h : aR L = true) : L.Pairwise (fun a b => b7 a.1 a.2.1 b.1 b.2.1 = true) := by
  rw [List.pairwise_iff_getElem]
  intro i j hi hj hij
  exact f8 h hij (List.getElem?_eq_getElem hi) (List.getElem?_eq_getElem hj)
/-! One class. -/
open Go.RowKit in
def p6 (s : Int) (X : io) : io := (true, X.2.1, wrap64 (X.2.2 + s))
theorem BE (X : io) {e : ac} (h : e.2.2.1 = 1) : AS X e = (true, e.2.2.2.1, e.2.2.2.2) := by simp [AS, vF, h]
theorem BD (X : io) {e : ac} (h : e.2.2.1 = 2) : AS X e = (false, ⟨#[]⟩, 0) := by simp [AS, vF, h]
theorem BC (X : io) {e : ac} (h : e.2.2.1 = 3) : AS X e = p6 e.2.2.2.2 X := by simp [AS, vF, h, p6]
open Go.RowKit in
theorem vL (x a b : Int) : wrap64 (wrap64 (x + a) + b) = wrap64 (x + (b + a)) := by unfold wrap64; omega
theorem add_add (a b : Int) (X : io) : p6 a (p6 b X) = p6 (a + b) X := by
  unfold p6
  simp only [vL]
def B7 (e : ac) : Prop := (e.2.2.1 = 1 ∨ e.2.2.1 = 2 ∨ e.2.2.1 = 3) ∧ (e.2.2.1 = 2 → e.2.2.2.2 = 0)
open Go.RowKit in
theorem qA : ∀ (L : List ac) (acc : Int) (X : io), (∀ e ∈ L, B7 e) →
    p6 acc (ev L X) = (if (aY false acc L).1 = 3 then p6 (aY false acc L).2.2 X else (true, (aY false acc L).2.1, wrap64 (aY false acc L).2.2)) ∧ ((aY false acc L).1 = 1 ∨ ((aY false acc L).1 = 3 ∧ (aY false acc L).2.1 = ⟨#[]⟩))
  | [], acc, X, _ => by simp [aY, ev]
  | e :: R, acc, X, h => by
    obtain ⟨hk, h0⟩ := h e List.mem_cons_self
    have e1 : ev (e :: R) X = AS (ev R X) e := rfl
    rw [e1]
    rcases hk with hk | hk | hk
    · have hj : aY false acc (e :: R) = (1, e.2.2.2.1, acc + e.2.2.2.2) := by simp [aY, hk]
      rw [hj, BE _ hk]
      simp only [p6]
      rw [if_neg (by omega), Int.add_comm]
      exact ⟨rfl, .inl trivial⟩
    · have hj : aY false acc (e :: R) = (1, ⟨#[]⟩, acc + e.2.2.2.2) := by simp [aY, hk]
      rw [hj, BD _ hk, h0 hk]
      simp only [p6]
      rw [if_neg (by omega), Int.add_comm]
      exact ⟨rfl, .inl trivial⟩
    · have hj : aY false acc (e :: R) = aY false (acc + e.2.2.2.2) R := by
        conv => lhs; unfold aY
        rw [if_neg (by omega), if_neg (by omega)]
      rw [hj, BC _ hk, add_add]
      exact qA R (acc + e.2.2.2.2) X (fun x hx => h x (List.mem_cons_of_mem _ hx))
theorem AE (b : Bool) : ∀ (c : List ac) (x : ac), x ∈ lN b c → ∃ y ∈ c, x.1 = y.1 ∧ x.2.1 = y.2.1
  | [], x, h => by cases h
  | e :: R, x, h => by
    have h' : x ∈ dP b e.1 e.2.1 (e :: R) := h
    unfold dP at h'
    by_cases h1 : dO (aY true 0 (e :: R)).2.2 = true
    · rw [if_pos h1] at h'
      by_cases h2 : b = true ∧ (aY true 0 (e :: R)).1 = 2
      · rw [if_pos h2] at h'; cases h'
      · rw [if_neg h2] at h'
        have := List.mem_singleton.1 h'
        rw [this]
        exact ⟨e, List.mem_cons_self, rfl, rfl⟩
    · rw [if_neg h1] at h'
      exact ⟨x, h', rfl, rfl⟩
/-! The classes of a key. -/
/-! All keys. -/
/-! One class and its one entry. -/
theorem wZ : ∀ (L : List ac) (acc : Int), (∀ e ∈ L, B7 e) → (aY false acc L).1 = 1 ∨ ((aY false acc L).1 = 3 ∧ (aY false acc L).2.1 = ⟨#[]⟩) := fun L acc h => (qA L acc noC h).2
theorem uN (e : ac) (R : List ac) (h : ∀ x ∈ e :: R, B7 x) : (aY true 0 (e :: R)).1 = 1 ∨ ((aY true 0 (e :: R)).1 = 2 ∧ (aY true 0 (e :: R)).2.1 = ⟨#[]⟩ ∧ (aY true 0 (e :: R)).2.2 = 0) ∨ ((aY true 0 (e :: R)).1 = 3 ∧ (aY true 0 (e :: R)).2.1 = ⟨#[]⟩) := by
  obtain ⟨hk, h0⟩ := h e List.mem_cons_self
  rcases hk with hk | hk | hk
  · have hj : aY true 0 (e :: R) = (1, e.2.2.2.1, 0 + e.2.2.2.2) := by simp [aY, hk]
    rw [hj]; exact .inl rfl
  · have hj : aY true 0 (e :: R) = (2, ⟨#[]⟩, 0 + e.2.2.2.2) := by simp [aY, hk]
    rw [hj, h0 hk]; exact .inr (.inl ⟨rfl, rfl, rfl⟩)
  · have hj : aY true 0 (e :: R) = aY false (0 + e.2.2.2.2) R := by
      conv => lhs; unfold aY
      rw [if_neg (by omega), if_neg (by omega)]
    rw [hj]
    rcases wZ R (0 + e.2.2.2.2) (fun x hx => h x (List.mem_cons_of_mem _ hx)) with h1 | h1
    · exact .inl h1
    · exact .inr (.inr h1)
/-! The classes of a key. -/
def vK (r : ac → ac → Bool) : List (List ac) → Prop
  | c :: d :: cs => (∀ x y, c.getLast? = some x → d.head? = some y → r x y = false) ∧ vK r (d :: cs)
  | _ => True
theorem vK.tail {r : ac → ac → Bool} {c : List ac} {cs : List (List ac)} (h : vK r (c :: cs)) : vK r cs := by
  cases cs with
  | nil => trivial
  | cons d cs => exact h.2
/-! All keys. -/
theorem tm : ∀ (L : List ac) (f : Bool) (acc : Int), (∀ e ∈ L, e.2.2.2.1.size ≤ 60) → (aY f acc L).2.1.size ≤ 60 := by
  intro L
  induction L with
  | nil => intro f acc _; exact Nat.zero_le _
  | cons e R ih =>
    intro f acc h
    unfold aY
    split
    · exact h e (List.mem_cons_self ..)
    · split
      · exact Nat.zero_le _
      · exact ih false _ (fun x hx => h x (List.mem_cons_of_mem _ hx))
def uY (e : ac) : Bool := cX e.1 e.2.1 e.2.2.1 e.2.2.2.1 e.2.2.2.2
theorem vx {e: ac} (h : uY e = true) : B7 e ∧ e.2.2.2.1.size ≤ 60 := by
  unfold uY cX at h
  simp only [Bool.and_eq_true, decide_eq_true_eq] at h
  obtain ⟨_, _, _, _, _, h5, h6⟩ := h
  refine ⟨⟨?_, ?_⟩, h5⟩
  · by_cases d1 : e.2.2.1 = 1
    · exact .inl d1
    · by_cases d2 : e.2.2.1 = 2
      · exact .inr (.inl d2)
      · by_cases d3 : e.2.2.1 = 3
        · exact .inr (.inr d3)
        · rw [ng d1 d2 d3] at h6; cases h6
  · intro d2
    rw [d2, gQ] at h6
    simp only [Bool.and_eq_true, decide_eq_true_eq] at h6
    exact h6.2
theorem Bf (b : Bool) : ∀ c : List ac, (∀ e ∈ c, uY e = true) → ∀ x ∈ lN b c, uY x = true
  | [], _, x, hx => by cases hx
  | e :: R, h, x, hx => by
    by_cases hs : dO (aY true 0 (e :: R)).2.2 = true
    · have he := h e List.mem_cons_self
      have ht := tm (e :: R) true 0 (fun y hy => (vx (h y hy)).2)
      have hf := uN e R (fun y hy => (vx (h y hy)).1)
      have hx' : x ∈ dP b e.1 e.2.1 (e :: R) := hx
      unfold dP at hx'
      rw [if_pos hs] at hx'
      obtain ⟨d, t, s, hj⟩ : ∃ d t s, aY true 0 (e :: R) = (d, t, s) := ⟨_, _, _, rfl⟩
      rw [hj] at hs hf ht hx'
      simp only at hs hf ht hx'
      by_cases h2 : b = true ∧ d = 2
      · rw [if_pos h2] at hx'; cases hx'
      · rw [if_neg h2] at hx'
        have hxe := List.mem_singleton.1 hx'
        rw [hxe]
        unfold uY cX at he ⊢
        simp only [Bool.and_eq_true, decide_eq_true_eq, dO] at he hs ⊢
        obtain ⟨a1, a2, a3, _⟩ := he
        refine ⟨a1, a2, a3, hs.1, hs.2, ht, ?_⟩
        by_cases h3 : b = true ∧ d = 3
        · rw [if_pos h3]; exact nf
        · rw [if_neg h3]
          rcases hf with rfl | ⟨rfl, rfl, rfl⟩ | ⟨rfl, rfl⟩
          · exact nf
          · rw [gQ]; rfl
          · rw [lm]; rfl
    · have hx' : x ∈ dP b e.1 e.2.1 (e :: R) := hx
      unfold dP at hx'
      rw [if_neg hs] at hx'
      exact h x hx'
theorem nM (p : ac → Prop) (S : List Int) (bottom : Bool) {L : List ac} (hcl : ∀ b c, (∀ e ∈ c, e ∈ L) → c.length ≤ L.length → ∀ x ∈ lN b c, p x) : ∀ x ∈ bI L S bottom, p x := by
  unfold bI
  by_cases hr : aR L = true
  · rw [if_pos hr]
    intro x hx
    obtain ⟨G, hG, hxG⟩ := List.mem_flatMap.1 hx
    have key : ∀ Cs : List (List ac), (∀ c ∈ Cs, (∀ e ∈ c, e ∈ L) ∧ c.length ≤ L.length) → ∀ e ∈ (Cs.foldr (Sq.stepD lN) (bottom, [])).2, p e := by
      intro Cs
      induction Cs with
      | nil => intro _ e he; cases he
      | cons c Cs ih =>
        intro h e he
        have ih' := ih (fun x hx => h x (List.mem_cons_of_mem _ hx))
        rw [List.foldr_cons] at he
        generalize Cs.foldr (Sq.stepD lN) (bottom, []) = st at ih' he
        have he' : e ∈ lN st.1 c ++ st.2 := he
        rcases List.mem_append.1 he' with h1 | h1
        · exact hcl _ c (h c List.mem_cons_self).1 (h c List.mem_cons_self).2 e h1
        · exact ih' e h1
    exact key _ (fun c hc => ⟨fun e he => (ib _ _ G hG).2 e ((ib _ _ c hc).2 e he), Nat.le_trans (ib _ _ c hc).1 (ib _ _ G hG).1⟩) x hxG
  · rw [if_neg hr]; intro x hx; cases hx
theorem sj (h : ∀ e ∈ L, uY e = true) (S : List Int) (bottom : Bool) : ∀ x ∈ bI L S bottom, uY x = true :=
  nM _ S bottom (fun b c hc _ => Bf b c (fun e he => h e (hc e he)))
/-! Keys and times of what is left. -/
def kq (e : ac) : ByteArray × Int := (e.1, e.2.1)
theorem Be (b : Bool) : ∀ c : List ac, ((lN b c).map kq).Sublist (c.map kq)
  | [] => List.Sublist.refl _
  | e :: R => by
    show ((dP b e.1 e.2.1 (e :: R)).map kq).Sublist _
    unfold dP
    by_cases h1 : dO (aY true 0 (e :: R)).2.2 = true
    · rw [if_pos h1]
      by_cases h2 : b = true ∧ (aY true 0 (e :: R)).1 = 2
      · rw [if_pos h2]; exact List.nil_sublist _
      · rw [if_neg h2]
        simp only [List.map_cons, List.map_nil, kq]
        exact List.Sublist.cons_cons _ (List.nil_sublist _)
    · rw [if_neg h1]; exact List.Sublist.refl _
theorem tj (bottom : Bool) : ∀ Cs : List (List ac), ((Cs.foldr (Sq.stepD lN) (bottom, [])).2.map kq).Sublist (Cs.flatten.map kq)
  | [] => List.Sublist.refl _
  | c :: Cs => by
    have ih := tj bottom Cs
    rw [List.foldr_cons, List.flatten_cons, List.map_append]
    generalize Cs.foldr (Sq.stepD lN) (bottom, []) = st at ih ⊢
    show ((lN st.1 c ++ st.2).map kq).Sublist _
    rw [List.map_append]
    exact List.Sublist.append (Be _ c) ih
theorem o9 (S : List Int) (bottom : Bool) : ∀ Gs : List (List ac), ((Gs.flatMap (eF S bottom)).map kq).Sublist (Gs.flatten.map kq)
  | [] => List.Sublist.refl _
  | G :: Gs => by
    have ih := o9 S bottom Gs
    have h := tj bottom (Sq.parts (fW S) G)
    rw [Sq.parts_flat] at h
    rw [List.flatMap_cons, List.flatten_cons, List.map_append, List.map_append]
    exact List.Sublist.append h ih
theorem sf (h : L.Pairwise (fun a b => b7 a.1 a.2.1 b.1 b.2.1 = true)) (S : List Int) (bottom : Bool) : (bI L S bottom).Pairwise (fun a b => b7 a.1 a.2.1 b.1 b.2.1 = true) := by
  unfold bI
  by_cases hr : aR L = true
  · rw [if_pos hr]
    have hs := o9 S bottom (Sq.parts eR L)
    rw [Sq.parts_flat] at hs
    have h1 : (L.map kq).Pairwise (fun a b => b7 a.1 a.2 b.1 b.2 = true) := List.pairwise_map.2 h
    exact List.pairwise_map.1 (h1.sublist hs)
  · rw [if_neg hr]; exact List.Pairwise.nil
theorem wL (hl : L.length = n) (h1 : ∀ e ∈ L, cX e.1 e.2.1 e.2.2.1 e.2.2.2.1 e.2.2.2.2 = true) (h2 : ∀ j, 1 ≤ j → j < n → ∀ x y, L[j - 1]? = some x → L[j]? = some y → b7 x.1 x.2.1 y.1 y.2.1 = true) : aR L = true := by
  refine kT (k := n) (fun j hj => ?_) (by omega)
  have hjl : j < L.length := by omega
  have he := List.getElem?_eq_getElem hjl
  match j, hj, hjl, he with
  | 0, _, hjl, he => rw [jx he]; exact h1 _ (List.getElem_mem hjl)
  | j + 1, hj, hjl, he =>
    have hd := List.getElem?_eq_getElem (l := L) (i := j) (by omega)
    rw [ie he hd, h1 _ (List.getElem_mem hjl), h2 (j + 1) (by omega) hj _ _ (show L[j + 1 - 1]? = _ from hd) he]
    rfl
theorem ix (hr : aR L = true) (S : List Int) (bottom : Bool) : aR (bI L S bottom) = true := by
  have hp := sf (um hr) S bottom
  refine wL rfl (sj (fun e he => by obtain ⟨j, hj⟩ := List.getElem?_of_mem he; exact fX hr hj) S bottom) (fun j h1 h2 x y hx hy => ?_)
  obtain ⟨hi, ei⟩ := List.getElem?_eq_some_iff.1 hx
  obtain ⟨hj, ej⟩ := List.getElem?_eq_some_iff.1 hy
  have := (List.pairwise_iff_getElem.1 hp) (j - 1) j hi hj (by omega)
  rw [ei, ej] at this
  exact this
structure dV (w:World) (base:Nat) (a:Option Addr) (n c:Nat) (L:List ac):Prop where
 nil:a=none→n=0∧c=0∧L=[]
 own:∀x,a=some x→∃g,x=⟨g,0,none⟩∧ay w base g n c L
theorem dV.some {g c:Nat} (h:ay w base g n c L):dV w base (pT g) n c L:=⟨(fun e=>by cases e),(fun x e=>by cases e;exact ⟨g,rfl,h⟩)⟩
theorem dV.none (w:World) (base:Nat):dV w base none 0 0 []:=⟨fun _=>⟨rfl,rfl,rfl⟩,fun x e=>by cases e⟩
theorem dV.len {a:Option Addr} {c:Nat} (h:dV w base a n c L):L.length=n:=by
 cases a with
 | none=>obtain ⟨h1,_,h3⟩:=h.nil rfl;rw [h1,h3];rfl
 | some x=>obtain ⟨g,_,h2⟩:=h.own x rfl;exact h2.len
theorem dV.entsAt {a:Option Addr} {c:Nat} (h:dV w base a n c L):aj w a n c L:=by
 cases a with
 | none =>
  obtain ⟨h1,h2,h3⟩:=h.nil rfl;subst h1 h2 h3;exact ⟨rfl,Nat.le_refl _,Nat.zero_le _,by simp,fun _=>rfl,(fun x e=>by cases e),(fun x e=>by cases e)⟩
 | some x=>obtain ⟨g,rfl,h2⟩:=h.own x rfl;exact h2.entsAt
theorem dV.lt {a:Option Addr} {c:Nat} (h:dV w base a n c L):∀x,a=.some x→base≤x.block∧x.block<w.heap.size:=fun x e=>by
 obtain ⟨g,rfl,h2⟩:=h.own x e
 exact h2.lt
theorem dV.grown {a:Option Addr} {c:Nat} {row:Option Nat} (h:dV w base a n c L) (hg:w.grownBy w' row) (hne:∀x,a=.some x→.some x.block≠row):dV w' base a n c L :=
 ⟨h.nil,fun x e=>by obtain ⟨g,rfl,h2⟩:=h.own x e;exact ⟨g,rfl,h2.grown hg (hne _ e)⟩⟩
theorem dV.mono {base':Nat} {a:Option Addr} {c:Nat} (h:dV w base a n c L) (hb:base'≤base):dV w base' a n c L :=
 ⟨h.nil,fun x e=>by obtain ⟨g,rfl,h2⟩:=h.own x e;exact ⟨g,rfl,h2.mono hb⟩⟩
theorem o6 (hb:Bl w w'):w.grownBy w' none:=⟨hb.os,hb.tape,hb.output,hb.size,fun k hk _=>hb.block k hk⟩
theorem dV.below {a:Option Addr} {c:Nat} (h:dV w base a n c L) (hb:Bl w w'):dV w' base a n c L:=h.grown (o6 hb) (fun x _ e=>by cases e)
theorem xR (w:World) (T:TypeId) (s t:ByteArray) (q d n:Int):∀j u,(b9 (s,q,d,t,n))[j]?=some u→(w.alloc (.cells #[.string s,iT q,iT d,.string t,iT n] T)).cell? ((⟨w.heap.size,0,none⟩:Addr).add j)=some u:=by
 intro j u hj;rw [Go.WideShapes.add_plain];match j,hj with
 | 0,hj=>simp [b9] at hj;subst hj;simp
 | 1,hj=>simp [b9] at hj;subst hj;simp
 | 2,hj=>simp [b9] at hj;subst hj;simp
 | 3,hj=>simp [b9] at hj;subst hj;simp
 | 4,hj=>simp [b9] at hj;subst hj;simp
 | j+5,hj=>simp [b9] at hj
theorem vj {W:World} {b b' e e' s s' n':Nat} {v v':Value} {xs xs':List Value} (h:W.ownsRow b e s v n xs) (h':W.ownsRow b' e' s' v' n' xs') (hne:e≠e') {k:Nat} (hk:v.ownBlock=some k):v'.ownBlock≠some k:=fun hk'=>by
 rcases h.2 with ⟨rfl,_⟩ | ⟨g,cap,cur,rfl,_,hg,_⟩
 · cases hk
 · cases hk
   rcases h'.2 with ⟨rfl,_⟩ | ⟨g',cap',cur',rfl,_,hg',_⟩
   · cases hk'
   · cases hk'
     rw [hg] at hg'
     cases hg'
     exact hne rfl
theorem fM (hs:rQ M) (he:∀e ∈ M,cX e.1 e.2.1 e.2.2.1 e.2.2.2.1 e.2.2.2.2=true):aR M=true:=by
 refine kT (k:=M.length) ?_ (Nat.le_refl _);intro j hj;have hg:M[j]?=some M[j]:=List.getElem?_eq_getElem hj;match j,hj,hg with
 | 0,hj,hg=>rw [jx hg];exact he _ (List.getElem_mem hj)
 | i+1,hj,hg =>
  have hi:M[i]?=some (M[i]'(by omega)):=List.getElem?_eq_getElem (by omega);rw [ie hg hi,he _ (List.getElem_mem hj)];exact (List.pairwise_iff_getElem.1 hs) i (i+1) (by omega) hj (by omega)
theorem rm {a b:ac} (h:aP b a=false) (hd:¬(a.1=b.1∧a.2.1=b.2.1)):aP a b=true:=by
 have h1:=qw a.1 b.1 a.2.1 b.2.1;unfold aP at h ⊢;rw [h,Bool.or_false] at h1;rw [h1];by_cases e:a.1=b.1
 · have:¬a.2.1=b.2.1:=fun e2=>hd ⟨e,e2⟩
   simp [this]
 · simp [e]
def fu (L:List ac):Prop:=L.Pairwise (fun a b=>¬(a.1=b.1∧a.2.1=b.2.1))
theorem gJ {A B:List ac} (h:fu A) (p:A.Perm B):fu B :=
 (List.Perm.pairwise_iff (fun {_ _} h e=>h ⟨e.1.symm,e.2.symm⟩) p).1 h
theorem qY (h:aR L=true):fu L:=by
 refine (fT h).imp ?_;rintro a b hab ⟨e1,e2⟩;unfold aP at hab;rw [e1,e2,gq] at hab;cases hab
theorem lP (hw:lF M) (hu:fu M):rQ M:=by
 refine (List.Pairwise.and hw hu).imp ?_;rintro a b ⟨h1,h2⟩;exact rm h1 h2
theorem mE {F G:List ac} (u:fu F) (p:F.Perm G):bk F=bk G :=
 i8 (lP (bJ F).1 (gJ u (bJ F).2.symm)) (bJ G).1 ((bJ F).2.trans (p.trans (bJ G).2.symm))
end Go.Proofs.YtpobkmjicbobdaaGreat
