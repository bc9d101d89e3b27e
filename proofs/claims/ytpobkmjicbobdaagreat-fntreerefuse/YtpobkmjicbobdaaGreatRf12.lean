/- Walks. -/
import Derived.Test.YtpobkmjicbobdaaGreatRf11
import Derived.Sort.Defs
namespace Go.Proofs.YtpobkmjicbobdaaGreat
namespace Sq
variable {α κ:Type} [DecidableEq κ]
def putP (r:α→α→Bool) (x:α):List (List α)→List (List α)
 | (y :: c) :: cs=>if r x y then (x :: y :: c) :: cs else [x] :: (y :: c) :: cs
 | cs=>[x] :: cs
def parts (r:α→α→Bool) (L:List α):List (List α):=L.foldr (putP r) []
theorem parts_cons (r:α→α→Bool) (x:α) (L:List α):parts r (x :: L)=putP r x (parts r L):=rfl
theorem oq (r:α→α→Bool) (x:α) (L:List α):∃c cs,parts r (x :: L)=(x :: c) :: cs:=by
 rw [parts_cons];unfold putP;split
 · rename_i y c cs _
   by_cases h:r x y
   · exact ⟨y :: c,cs,by rw [if_pos h]⟩
   · exact ⟨[],(y :: c) :: cs,by rw [if_neg h]⟩
 · exact ⟨[],_,rfl⟩
theorem parts_flat (r:α→α→Bool):∀L:List α,(parts r L).flatten=L
 | []=>rfl
 | x :: L=>by
  rw [parts_cons]
  have ih:=parts_flat r L
  unfold putP
  split
  · rename_i y c cs h
    rw [h] at ih
    by_cases hr:r x y
    · rw [if_pos hr];simpa using ih
    · rw [if_neg hr];simpa using ih
  · simpa using ih
variable (key:α→κ) (cl:Bool→List α→List α) (bottom:Bool)
def stepD (c:List α) (st:Bool × List α):Bool × List α:=(if (cl st.1 c).isEmpty then st.1 else false,cl st.1 c++st.2)
def leftD (Cs:List (List α)):List α:=(Cs.foldr (stepD cl) (bottom,[])).2
end Sq
namespace Sq
variable {α:Type}
theorem qh (r:α→α→Bool):∀A B:List α,(∀x y,A.getLast?=some x→B.head?=some y→r x y=false)→parts r (A++B)=parts r A++parts r B
 | [],B,_=>rfl
 | [x],B,h=>by
  match B with
  | []=>rfl
  | y :: R =>
   obtain ⟨c,cs,hp⟩:=oq r y R
   have hr:=h x y rfl rfl
   rw [List.singleton_append,parts_cons,hp]
   simp [putP,hr,parts]
 | x :: z :: A,B,h=>by
  have ih:=qh r (z :: A) B (fun a b ha hb=>h a b (by rw [List.getLast?_cons_cons];exact ha) hb)
  obtain ⟨c,cs,hp⟩:=oq r z A
  rw [List.cons_append,parts_cons,ih,parts_cons r x,hp]
  by_cases e:r x z <;> simp [putP,e]
theorem mH (r:α→α→Bool):∀A:List α,A≠[]→(∀(j:Nat) x y,A[j]?=some x→A[j+1]?=some y→r x y=true)→parts r A=[A]
 | [],h,_=>absurd rfl h
 | [x],_,_=>rfl
 | x :: z :: A,_,h=>by
  have ih:=mH r (z :: A) (by simp) (fun j a b ha hb=>h (j+1) a b (by simpa using ha) (by simpa using hb))
  have hr:=h 0 x z rfl rfl
  rw [parts_cons,ih]
  simp [putP,hr]
theorem parts_front (r:α→α→Bool) (L:List α) (i k:Nat) (hik:i<k) (hk:k≤L.length) (h1:∀j,i<j→j<k→∀x y,L[j - 1]?=some x→L[j]?=some y→r x y=true)
 (h2:∀x y,L[k - 1]?=some x→L[k]?=some y→r x y=false):parts r (L.drop i)=(L.drop i).take (k - i) :: parts r (L.drop k):=by
 have e:L.drop i=(L.drop i).take (k - i)++L.drop k:=by
  have:=(List.take_append_drop (k - i) (L.drop i)).symm;rw [List.drop_drop,show i+(k - i)=k by omega] at this;exact this
 have hl:((L.drop i).take (k - i)).length=k - i:=by rw [List.length_take,List.length_drop];omega
 conv=>lhs;rw [e]
 rw [qh,mH]
 · rfl
 · intro e;rw [e] at hl;simp at hl;omega
 · intro j x y hx hy;have hj:j+1<k - i:=by rw [← hl];exact (List.getElem?_eq_some_iff.1 hy).1
   rw [List.getElem?_take_of_lt (by omega),List.getElem?_drop] at hx hy;exact h1 (i+(j+1)) (by omega) (by omega) x y (by rw [show i+(j+1) - 1=i+j by omega];exact hx) hy
 · intro x y hx hy;rw [List.getLast?_eq_getElem?,hl,List.getElem?_take_of_lt (by omega),List.getElem?_drop,show i+(k - i - 1)=k - 1 by omega] at hx;rw [List.head?_drop] at hy;exact h2 x y hx hy
end Sq
end Go.Proofs.YtpobkmjicbobdaaGreat
namespace Go.Proofs.YtpobkmjicbobdaaGreat
def lK (b:Bool):List ac→List ac
 | []=>[]
 | e :: r=>dR b e.1 e.2.1 (e :: r)
def fU (S:List Int) (x y:ac):Bool:=!fj S y.2.1 x.2.1
def eT (x y:ac):Bool:=decide (x.1=y.1)
def eJ (S:List Int) (bottom:Bool) (G:List ac):List ac:=Sq.leftD lK bottom (Sq.parts (fU S) G)
def bE (L:List ac) (S:List Int) (bottom:Bool):List ac:=if aJ L=true then (Sq.parts eT L).flatMap (eJ S bottom) else []
theorem th {c:List ac} {e:ac} (b:Bool) (h:c[0]?=some e):lK b c=dR b e.1 e.2.1 c:=by
 match c,h with
 | x :: r,h=>simp at h;subst h;rfl
theorem vq (b:Bool):∀c:List ac,(lK b c).length≤c.length
 | []=>Nat.le_refl _
 | e :: r=>by
  show (dR b e.1 e.2.1 (e :: r)).length≤(e :: r).length
  unfold dR
  by_cases h1:dQ (aW true 0 (e :: r)).2.2=true
  · rw [if_pos h1]
    by_cases h2:b=true∧(aW true 0 (e :: r)).1=2
    · rw [if_pos h2];simp
    · rw [if_neg h2];simp
  · rw [if_neg h1];exact Nat.le_refl _
theorem oH (bottom:Bool):∀P:List (List ac),((P.foldr (Sq.stepD lK) (bottom,[])).2).length≤P.flatten.length
 | []=>Nat.le_refl _
 | c :: P=>by
  have ih:=oH bottom P
  have h:=vq (P.foldr (Sq.stepD lK) (bottom,[])).1 c
  rw [List.foldr_cons,List.flatten_cons,List.length_append]
  generalize P.foldr (Sq.stepD lK) (bottom,[])=st at ih h ⊢
  show (lK st.1 c++st.2).length≤_
  rw [List.length_append]
  omega
theorem mg (S:List Int) (bottom:Bool) (G:List ac):(eJ S bottom G).length≤G.length:=by
 have:=oH bottom (Sq.parts (fU S) G);rw [Sq.parts_flat] at this;exact this
theorem wv (bottom:Bool) (P:List (List ac)) (j:Nat) (c:List ac) (h:P[j]?=some c) :
 (P.drop j).foldr (Sq.stepD lK) (bottom,[])=Sq.stepD lK c ((P.drop (j+1)).foldr (Sq.stepD lK) (bottom,[])):=by
 obtain ⟨hj,e⟩:=List.getElem?_eq_some_iff.1 h;rw [List.drop_eq_getElem_cons hj,e];rfl
theorem o6 (S:List Int) (bottom:Bool):∀P:List (List ac),(P.flatMap (eJ S bottom)).length≤P.flatten.length
 | []=>Nat.le_refl _
 | c :: P=>by
  have ih:=o6 S bottom P
  have h:=mg S bottom c
  rw [List.flatMap_cons,List.flatten_cons,List.length_append,List.length_append]
  omega
theorem iW (L:List ac) (S:List Int) (bottom:Bool):(bE L S bottom).length≤L.length:=by
 unfold bE;split
 · have:=o6 S bottom (Sq.parts eT L);rwa [Sq.parts_flat] at this
 · simp
theorem gY (r:ac→ac→Bool) (L:List ac) (c:List ac) (h:c ∈ Sq.parts r L):c.length≤L.length∧∀e ∈ c,e ∈ L:=by
 have hf:=Sq.parts_flat r L;refine ⟨?_,fun e he=>by rw [← hf];exact List.mem_flatten.2 ⟨c,h,he⟩⟩;obtain ⟨A,B,e⟩:=List.append_of_mem h;rw [← hf,e];simp;omega
theorem jo (r:ac→ac→Bool):∀(L:List ac) (c:List ac),c ∈ Sq.parts r L→c≠[]
 | [],c,h=>by simp [Sq.parts] at h
 | z :: L,c,h=>by
  have ih:=jo r L
  rw [Sq.parts_cons] at h
  unfold Sq.putP at h
  split at h
  · rename_i y c' cs hp
    rw [hp] at ih
    split at h
    · rcases List.mem_cons.1 h with rfl | h
      · simp
      · exact ih c (List.mem_cons_of_mem _ h)
    · rcases List.mem_cons.1 h with rfl | h
      · simp
      · exact ih c h
  · rcases List.mem_cons.1 h with rfl | h
    · simp
    · exact ih c h
theorem ud {L:List ac} (h:aJ L=true):∀e ∈ L,(-1000000≤e.2.2.2.2∧e.2.2.2.2≤1000000)∧(1≤e.2.2.1∧e.2.2.1≤3∧(e.2.2.1=2→e.2.2.2.1=⟨#[]⟩))∧e.1≠⟨#[]⟩:=by
 intro e he;obtain ⟨j,hj⟩:=List.getElem?_of_mem he;have hb:=fq h hj;unfold cW at hb;simp only [Bool.and_eq_true,decide_eq_true_eq] at hb;obtain ⟨hk,h1,h2,h3,h4,h5,h6⟩:=hb;refine ⟨⟨h3,h4⟩,?_,?_⟩
 · by_cases d1:e.2.2.1=1
   · exact ⟨by omega,by omega,fun h=>by omega⟩
   · by_cases d2:e.2.2.1=2
     · rw [d2] at h6;simp [fg] at h6;exact ⟨by omega,by omega,fun _=>h6.1⟩
     · by_cases d3:e.2.2.1=3
       · exact ⟨by omega,by omega,fun h=>by omega⟩
       · rw [mZ d1 d2 d3] at h6;cases h6
 · intro e0;rw [e0] at hk;simp [fh,ByteArray.size] at hk
end Go.Proofs.YtpobkmjicbobdaaGreat
namespace Go.Proofs.YtpobkmjicbobdaaGreat
set_option maxRecDepth 100000
set_option maxHeartbeats 40000000
open Go.RowKit
section
attribute [local go_sem] Oper.semAt_some
def vr (b:Bool) (t:ByteArray) (n:Int) (d:Int) (t':ByteArray) (n':Int):ik :=
 if d=1 then (true,t',n') else if d=2 then (false,⟨#[]⟩,0) else if d=3 then (true,t,wrap64 (n+n')) else (b,t,n)
end
end Go.Proofs.YtpobkmjicbobdaaGreat
namespace Go.Proofs.YtpobkmjicbobdaaGreat
open Go.RowKit
/-! The insertion sort that the library runs is this one. -/
/-! What a key has. -/
def AH (c : ik) (e : ac) : ik := vr c.1 c.2.1 c.2.2 e.2.2.1 e.2.2.2.1 e.2.2.2.2
end Go.Proofs.YtpobkmjicbobdaaGreat
namespace Go.Proofs.YtpobkmjicbobdaaGreat
open Go.RowKit
/-! What the laws of cells say, of lists alone. -/
def BJ (L : List ac) : Prop := L.Pairwise (fun a b => a.2.1 ≠ b.2.1)
theorem BJ.perm {A B : List ac} (h : BJ A) (p : A.Perm B) : BJ B := (p.pairwise_iff (fun h => Ne.symm h)).1 h
end Go.Proofs.YtpobkmjicbobdaaGreat
namespace Go.Proofs.YtpobkmjicbobdaaGreat
open Go.RowKit
/-! A cell is its last reset and what was added since. -/
end Go.Proofs.YtpobkmjicbobdaaGreat
namespace Go.Proofs.YtpobkmjicbobdaaGreat
set_option maxRecDepth 100000
set_option maxHeartbeats 40000000
open Go.RowKit
variable {L M:List ac} {base n:Nat} {w w':World}
def ev (M : List ac) (c : ik) : ik := M.foldr (fun e c => AH c e) c
def noC : ik := (false, ⟨#[]⟩, 0)
theorem uc (h : aJ L = true) : L.Pairwise (fun a b => bQ a.1 a.2.1 b.1 b.2.1 = true) := by
  rw [List.pairwise_iff_getElem]
  intro i j hi hj hij
  exact f7 h hij (List.getElem?_eq_getElem hi) (List.getElem?_eq_getElem hj)
/-! One class. -/
open Go.RowKit in
def pN (s : Int) (X : ik) : ik := (true, X.2.1, wrap64 (X.2.2 + s))
theorem Bn (X : ik) {e : ac} (h : e.2.2.1 = 1) : AH X e = (true, e.2.2.2.1, e.2.2.2.2) := by simp [AH, vr, h]
theorem Bm (X : ik) {e : ac} (h : e.2.2.1 = 2) : AH X e = (false, ⟨#[]⟩, 0) := by simp [AH, vr, h]
theorem Bk (X : ik) {e : ac} (h : e.2.2.1 = 3) : AH X e = pN e.2.2.2.2 X := by simp [AH, vr, h, pN]
open Go.RowKit in
theorem vB (x a b : Int) : wrap64 (wrap64 (x + a) + b) = wrap64 (x + (b + a)) := by unfold wrap64; omega
theorem add_add (a b : Int) (X : ik) : pN a (pN b X) = pN (a + b) X := by
  unfold pN
  simp only [vB]
def BL (e : ac) : Prop := (e.2.2.1 = 1 ∨ e.2.2.1 = 2 ∨ e.2.2.1 = 3) ∧ (e.2.2.1 = 2 → e.2.2.2.2 = 0)
open Go.RowKit in
theorem qr : ∀ (L : List ac) (acc : Int) (X : ik), (∀ e ∈ L, BL e) →
    pN acc (ev L X) = (if (aW false acc L).1 = 3 then pN (aW false acc L).2.2 X else (true, (aW false acc L).2.1, wrap64 (aW false acc L).2.2)) ∧ ((aW false acc L).1 = 1 ∨ ((aW false acc L).1 = 3 ∧ (aW false acc L).2.1 = ⟨#[]⟩))
  | [], acc, X, _ => by simp [aW, ev]
  | e :: R, acc, X, h => by
    obtain ⟨hk, h0⟩ := h e List.mem_cons_self
    have e1 : ev (e :: R) X = AH (ev R X) e := rfl
    rw [e1]
    rcases hk with hk | hk | hk
    · have hj : aW false acc (e :: R) = (1, e.2.2.2.1, acc + e.2.2.2.2) := by simp [aW, hk]
      rw [hj, Bn _ hk]
      simp only [pN]
      rw [if_neg (by omega), Int.add_comm]
      exact ⟨rfl, .inl trivial⟩
    · have hj : aW false acc (e :: R) = (1, ⟨#[]⟩, acc + e.2.2.2.2) := by simp [aW, hk]
      rw [hj, Bm _ hk, h0 hk]
      simp only [pN]
      rw [if_neg (by omega), Int.add_comm]
      exact ⟨rfl, .inl trivial⟩
    · have hj : aW false acc (e :: R) = aW false (acc + e.2.2.2.2) R := by
        conv => lhs; unfold aW
        rw [if_neg (by omega), if_neg (by omega)]
      rw [hj, Bk _ hk, add_add]
      exact qr R (acc + e.2.2.2.2) X (fun x hx => h x (List.mem_cons_of_mem _ hx))
theorem Au (b : Bool) : ∀ (c : List ac) (x : ac), x ∈ lK b c → ∃ y ∈ c, x.1 = y.1 ∧ x.2.1 = y.2.1
  | [], x, h => by cases h
  | e :: R, x, h => by
    have h' : x ∈ dR b e.1 e.2.1 (e :: R) := h
    unfold dR at h'
    by_cases h1 : dQ (aW true 0 (e :: R)).2.2 = true
    · rw [if_pos h1] at h'
      by_cases h2 : b = true ∧ (aW true 0 (e :: R)).1 = 2
      · rw [if_pos h2] at h'; cases h'
      · rw [if_neg h2] at h'
        have := List.mem_singleton.1 h'
        rw [this]
        exact ⟨e, List.mem_cons_self, rfl, rfl⟩
    · rw [if_neg h1] at h'
      exact ⟨x, h', rfl, rfl⟩
/-! The classes of a key. -/
/-! All keys. -/
/-! One class and its one entry. -/
theorem wH : ∀ (L : List ac) (acc : Int), (∀ e ∈ L, BL e) → (aW false acc L).1 = 1 ∨ ((aW false acc L).1 = 3 ∧ (aW false acc L).2.1 = ⟨#[]⟩) := fun L acc h => (qr L acc noC h).2
theorem uH (e : ac) (R : List ac) (h : ∀ x ∈ e :: R, BL x) : (aW true 0 (e :: R)).1 = 1 ∨ ((aW true 0 (e :: R)).1 = 2 ∧ (aW true 0 (e :: R)).2.1 = ⟨#[]⟩ ∧ (aW true 0 (e :: R)).2.2 = 0) ∨ ((aW true 0 (e :: R)).1 = 3 ∧ (aW true 0 (e :: R)).2.1 = ⟨#[]⟩) := by
  obtain ⟨hk, h0⟩ := h e List.mem_cons_self
  rcases hk with hk | hk | hk
  · have hj : aW true 0 (e :: R) = (1, e.2.2.2.1, 0 + e.2.2.2.2) := by simp [aW, hk]
    rw [hj]; exact .inl rfl
  · have hj : aW true 0 (e :: R) = (2, ⟨#[]⟩, 0 + e.2.2.2.2) := by simp [aW, hk]
    rw [hj, h0 hk]; exact .inr (.inl ⟨rfl, rfl, rfl⟩)
  · have hj : aW true 0 (e :: R) = aW false (0 + e.2.2.2.2) R := by
      conv => lhs; unfold aW
      rw [if_neg (by omega), if_neg (by omega)]
    rw [hj]
    rcases wH R (0 + e.2.2.2.2) (fun x hx => h x (List.mem_cons_of_mem _ hx)) with h1 | h1
    · exact .inl h1
    · exact .inr (.inr h1)
/-! The classes of a key. -/
def vA (r : ac → ac → Bool) : List (List ac) → Prop
  | c :: d :: cs => (∀ x y, c.getLast? = some x → d.head? = some y → r x y = false) ∧ vA r (d :: cs)
  | _ => True
theorem vA.tail {r : ac → ac → Bool} {c : List ac} {cs : List (List ac)} (h : vA r (c :: cs)) : vA r cs := by
  cases cs with
  | nil => trivial
  | cons d cs => exact h.2
/-! All keys. -/
theorem sW : ∀ (L : List ac) (f : Bool) (acc : Int), (∀ e ∈ L, e.2.2.2.1.size ≤ 60) → (aW f acc L).2.1.size ≤ 60 := by
  intro L
  induction L with
  | nil => intro f acc _; exact Nat.zero_le _
  | cons e R ih =>
    intro f acc h
    unfold aW
    split
    · exact h e (List.mem_cons_self ..)
    · split
      · exact Nat.zero_le _
      · exact ih false _ (fun x hx => h x (List.mem_cons_of_mem _ hx))
def uT (e : ac) : Bool := cW e.1 e.2.1 e.2.2.1 e.2.2.2.1 e.2.2.2.2
theorem vj {e: ac} (h : uT e = true) : BL e ∧ e.2.2.2.1.size ≤ 60 := by
  unfold uT cW at h
  simp only [Bool.and_eq_true, decide_eq_true_eq] at h
  obtain ⟨_, _, _, _, _, h5, h6⟩ := h
  refine ⟨⟨?_, ?_⟩, h5⟩
  · by_cases d1 : e.2.2.1 = 1
    · exact .inl d1
    · by_cases d2 : e.2.2.1 = 2
      · exact .inr (.inl d2)
      · by_cases d3 : e.2.2.1 = 3
        · exact .inr (.inr d3)
        · rw [mZ d1 d2 d3] at h6; cases h6
  · intro d2
    rw [d2, gK] at h6
    simp only [Bool.and_eq_true, decide_eq_true_eq] at h6
    exact h6.2
theorem A4 (b : Bool) : ∀ c : List ac, (∀ e ∈ c, uT e = true) → ∀ x ∈ lK b c, uT x = true
  | [], _, x, hx => by cases hx
  | e :: R, h, x, hx => by
    by_cases hs : dQ (aW true 0 (e :: R)).2.2 = true
    · have he := h e List.mem_cons_self
      have ht := sW (e :: R) true 0 (fun y hy => (vj (h y hy)).2)
      have hf := uH e R (fun y hy => (vj (h y hy)).1)
      have hx' : x ∈ dR b e.1 e.2.1 (e :: R) := hx
      unfold dR at hx'
      rw [if_pos hs] at hx'
      obtain ⟨d, t, s, hj⟩ : ∃ d t s, aW true 0 (e :: R) = (d, t, s) := ⟨_, _, _, rfl⟩
      rw [hj] at hs hf ht hx'
      simp only at hs hf ht hx'
      by_cases h2 : b = true ∧ d = 2
      · rw [if_pos h2] at hx'; cases hx'
      · rw [if_neg h2] at hx'
        have hxe := List.mem_singleton.1 hx'
        rw [hxe]
        unfold uT cW at he ⊢
        simp only [Bool.and_eq_true, decide_eq_true_eq, dQ] at he hs ⊢
        obtain ⟨a1, a2, a3, _⟩ := he
        refine ⟨a1, a2, a3, hs.1, hs.2, ht, ?_⟩
        by_cases h3 : b = true ∧ d = 3
        · rw [if_pos h3]; exact mY
        · rw [if_neg h3]
          rcases hf with rfl | ⟨rfl, rfl, rfl⟩ | ⟨rfl, rfl⟩
          · exact mY
          · rw [gK]; rfl
          · rw [li]; rfl
    · have hx' : x ∈ dR b e.1 e.2.1 (e :: R) := hx
      unfold dR at hx'
      rw [if_neg hs] at hx'
      exact h x hx'
theorem nL (p : ac → Prop) (S : List Int) (bottom : Bool) {L : List ac} (hcl : ∀ b c, (∀ e ∈ c, e ∈ L) → c.length ≤ L.length → ∀ x ∈ lK b c, p x) : ∀ x ∈ bE L S bottom, p x := by
  unfold bE
  by_cases hr : aJ L = true
  · rw [if_pos hr]
    intro x hx
    obtain ⟨G, hG, hxG⟩ := List.mem_flatMap.1 hx
    have key : ∀ Cs : List (List ac), (∀ c ∈ Cs, (∀ e ∈ c, e ∈ L) ∧ c.length ≤ L.length) → ∀ e ∈ (Cs.foldr (Sq.stepD lK) (bottom, [])).2, p e := by
      intro Cs
      induction Cs with
      | nil => intro _ e he; cases he
      | cons c Cs ih =>
        intro h e he
        have ih' := ih (fun x hx => h x (List.mem_cons_of_mem _ hx))
        rw [List.foldr_cons] at he
        generalize Cs.foldr (Sq.stepD lK) (bottom, []) = st at ih' he
        have he' : e ∈ lK st.1 c ++ st.2 := he
        rcases List.mem_append.1 he' with h1 | h1
        · exact hcl _ c (h c List.mem_cons_self).1 (h c List.mem_cons_self).2 e h1
        · exact ih' e h1
    exact key _ (fun c hc => ⟨fun e he => (gY _ _ G hG).2 e ((gY _ _ c hc).2 e he), Nat.le_trans (gY _ _ c hc).1 (gY _ _ G hG).1⟩) x hxG
  · rw [if_neg hr]; intro x hx; cases hx
theorem rU (h : ∀ e ∈ L, uT e = true) (S : List Int) (bottom : Bool) : ∀ x ∈ bE L S bottom, uT x = true :=
  nL _ S bottom (fun b c hc _ => A4 b c (fun e he => h e (hc e he)))
/-! Keys and times of what is left. -/
def kq (e : ac) : ByteArray × Int := (e.1, e.2.1)
theorem A3 (b : Bool) : ∀ c : List ac, ((lK b c).map kq).Sublist (c.map kq)
  | [] => List.Sublist.refl _
  | e :: R => by
    show ((dR b e.1 e.2.1 (e :: R)).map kq).Sublist _
    unfold dR
    by_cases h1 : dQ (aW true 0 (e :: R)).2.2 = true
    · rw [if_pos h1]
      by_cases h2 : b = true ∧ (aW true 0 (e :: R)).1 = 2
      · rw [if_pos h2]; exact List.nil_sublist _
      · rw [if_neg h2]
        simp only [List.map_cons, List.map_nil, kq]
        exact List.Sublist.cons_cons _ (List.nil_sublist _)
    · rw [if_neg h1]; exact List.Sublist.refl _
theorem sV (bottom : Bool) : ∀ Cs : List (List ac), ((Cs.foldr (Sq.stepD lK) (bottom, [])).2.map kq).Sublist (Cs.flatten.map kq)
  | [] => List.Sublist.refl _
  | c :: Cs => by
    have ih := sV bottom Cs
    rw [List.foldr_cons, List.flatten_cons, List.map_append]
    generalize Cs.foldr (Sq.stepD lK) (bottom, []) = st at ih ⊢
    show ((lK st.1 c ++ st.2).map kq).Sublist _
    rw [List.map_append]
    exact List.Sublist.append (A3 _ c) ih
theorem o4 (S : List Int) (bottom : Bool) : ∀ Gs : List (List ac), ((Gs.flatMap (eJ S bottom)).map kq).Sublist (Gs.flatten.map kq)
  | [] => List.Sublist.refl _
  | G :: Gs => by
    have ih := o4 S bottom Gs
    have h := sV bottom (Sq.parts (fU S) G)
    rw [Sq.parts_flat] at h
    rw [List.flatMap_cons, List.flatten_cons, List.map_append, List.map_append]
    exact List.Sublist.append h ih
theorem rS (h : L.Pairwise (fun a b => bQ a.1 a.2.1 b.1 b.2.1 = true)) (S : List Int) (bottom : Bool) : (bE L S bottom).Pairwise (fun a b => bQ a.1 a.2.1 b.1 b.2.1 = true) := by
  unfold bE
  by_cases hr : aJ L = true
  · rw [if_pos hr]
    have hs := o4 S bottom (Sq.parts eT L)
    rw [Sq.parts_flat] at hs
    have h1 : (L.map kq).Pairwise (fun a b => bQ a.1 a.2 b.1 b.2 = true) := List.pairwise_map.2 h
    exact List.pairwise_map.1 (h1.sublist hs)
  · rw [if_neg hr]; exact List.Pairwise.nil
theorem vV (hl : L.length = n) (h1 : ∀ e ∈ L, cW e.1 e.2.1 e.2.2.1 e.2.2.2.1 e.2.2.2.2 = true) (h2 : ∀ j, 1 ≤ j → j < n → ∀ x y, L[j - 1]? = some x → L[j]? = some y → bQ x.1 x.2.1 y.1 y.2.1 = true) : aJ L = true := by
  refine kT (k := n) (fun j hj => ?_) (by omega)
  have hjl : j < L.length := by omega
  have he := List.getElem?_eq_getElem hjl
  match j, hj, hjl, he with
  | 0, _, hjl, he => rw [jq he]; exact h1 _ (List.getElem_mem hjl)
  | j + 1, hj, hjl, he =>
    have hd := List.getElem?_eq_getElem (l := L) (i := j) (by omega)
    rw [ia he hd, h1 _ (List.getElem_mem hjl), h2 (j + 1) (by omega) hj _ _ (show L[j + 1 - 1]? = _ from hd) he]
    rfl
theorem iu (hr : aJ L = true) (S : List Int) (bottom : Bool) : aJ (bE L S bottom) = true := by
  have hp := rS (uc hr) S bottom
  refine vV rfl (rU (fun e he => by obtain ⟨j, hj⟩ := List.getElem?_of_mem he; exact fq hr hj) S bottom) (fun j h1 h2 x y hx hy => ?_)
  obtain ⟨hi, ei⟩ := List.getElem?_eq_some_iff.1 hx
  obtain ⟨hj, ej⟩ := List.getElem?_eq_some_iff.1 hy
  have := (List.pairwise_iff_getElem.1 hp) (j - 1) j hi hj (by omega)
  rw [ei, ej] at this
  exact this
structure dG (w:World) (base:Nat) (a:Option Addr) (n c:Nat) (L:List ac):Prop where
 nil:a=none→n=0∧c=0∧L=[]
 own:∀x,a=some x→∃g,x=⟨g,0,none⟩∧ar w base g n c L
theorem dG.some {g c:Nat} (h:ar w base g n c L):dG w base (pT g) n c L:=⟨(fun e=>by cases e),(fun x e=>by cases e;exact ⟨g,rfl,h⟩)⟩
theorem dG.none (w:World) (base:Nat):dG w base none 0 0 []:=⟨fun _=>⟨rfl,rfl,rfl⟩,fun x e=>by cases e⟩
theorem dG.len {a:Option Addr} {c:Nat} (h:dG w base a n c L):L.length=n:=by
 cases a with
 | none=>obtain ⟨h1,_,h3⟩:=h.nil rfl;rw [h1,h3];rfl
 | some x=>obtain ⟨g,_,h2⟩:=h.own x rfl;exact h2.len
theorem dG.entsAt {a:Option Addr} {c:Nat} (h:dG w base a n c L):ah w a n c L:=by
 cases a with
 | none =>
  obtain ⟨h1,h2,h3⟩:=h.nil rfl;subst h1 h2 h3;exact ⟨rfl,Nat.le_refl _,Nat.zero_le _,by simp,fun _=>rfl,(fun x e=>by cases e),(fun x e=>by cases e)⟩
 | some x=>obtain ⟨g,rfl,h2⟩:=h.own x rfl;exact h2.entsAt
theorem dG.lt {a:Option Addr} {c:Nat} (h:dG w base a n c L):∀x,a=.some x→base≤x.block∧x.block<w.heap.size:=fun x e=>by
 obtain ⟨g,rfl,h2⟩:=h.own x e
 exact h2.lt
theorem dG.grown {a:Option Addr} {c:Nat} {row:Option Nat} (h:dG w base a n c L) (hg:w.grownBy w' row) (hne:∀x,a=.some x→.some x.block≠row):dG w' base a n c L :=
 ⟨h.nil,fun x e=>by obtain ⟨g,rfl,h2⟩:=h.own x e;exact ⟨g,rfl,h2.grown hg (hne _ e)⟩⟩
theorem dG.mono {base':Nat} {a:Option Addr} {c:Nat} (h:dG w base a n c L) (hb:base'≤base):dG w base' a n c L :=
 ⟨h.nil,fun x e=>by obtain ⟨g,rfl,h2⟩:=h.own x e;exact ⟨g,rfl,h2.mono hb⟩⟩
theorem oX (hb:Bl w w'):w.grownBy w' none:=⟨hb.os,hb.tape,hb.output,hb.size,fun k hk _=>hb.block k hk⟩
theorem dG.below {a:Option Addr} {c:Nat} (h:dG w base a n c L) (hb:Bl w w'):dG w' base a n c L:=h.grown (oX hb) (fun x _ e=>by cases e)
theorem xH (w:World) (T:TypeId) (s t:ByteArray) (q d n:Int):∀j u,(bT (s,q,d,t,n))[j]?=some u→(w.alloc (.cells #[.string s,iT q,iT d,.string t,iT n] T)).cell? ((⟨w.heap.size,0,none⟩:Addr).add j)=some u:=by
 intro j u hj;rw [Go.WideShapes.add_plain];match j,hj with
 | 0,hj=>simp [bT] at hj;subst hj;simp
 | 1,hj=>simp [bT] at hj;subst hj;simp
 | 2,hj=>simp [bT] at hj;subst hj;simp
 | 3,hj=>simp [bT] at hj;subst hj;simp
 | 4,hj=>simp [bT] at hj;subst hj;simp
 | j+5,hj=>simp [bT] at hj
theorem u7 {W:World} {b b' e e' s s' n':Nat} {v v':Value} {xs xs':List Value} (h:W.ownsRow b e s v n xs) (h':W.ownsRow b' e' s' v' n' xs') (hne:e≠e') {k:Nat} (hk:v.ownBlock=some k):v'.ownBlock≠some k:=fun hk'=>by
 rcases h.2 with ⟨rfl,_⟩ | ⟨g,cap,cur,rfl,_,hg,_⟩
 · cases hk
 · cases hk
   rcases h'.2 with ⟨rfl,_⟩ | ⟨g',cap',cur',rfl,_,hg',_⟩
   · cases hk'
   · cases hk'
     rw [hg] at hg'
     cases hg'
     exact hne rfl
theorem fK (hs:rx M) (he:∀e ∈ M,cW e.1 e.2.1 e.2.2.1 e.2.2.2.1 e.2.2.2.2=true):aJ M=true:=by
 refine kT (k:=M.length) ?_ (Nat.le_refl _);intro j hj;have hg:M[j]?=some M[j]:=List.getElem?_eq_getElem hj;match j,hj,hg with
 | 0,hj,hg=>rw [jq hg];exact he _ (List.getElem_mem hj)
 | i+1,hj,hg =>
  have hi:M[i]?=some (M[i]'(by omega)):=List.getElem?_eq_getElem (by omega);rw [ia hg hi,he _ (List.getElem_mem hj)];exact (List.pairwise_iff_getElem.1 hs) i (i+1) (by omega) hj (by omega)
theorem q9 {a b:ac} (h:aL b a=false) (hd:¬(a.1=b.1∧a.2.1=b.2.1)):aL a b=true:=by
 have h1:=qo a.1 b.1 a.2.1 b.2.1;unfold aL at h ⊢;rw [h,Bool.or_false] at h1;rw [h1];by_cases e:a.1=b.1
 · have:¬a.2.1=b.2.1:=fun e2=>hd ⟨e,e2⟩
   simp [this]
 · simp [e]
def fN (L:List ac):Prop:=L.Pairwise (fun a b=>¬(a.1=b.1∧a.2.1=b.2.1))
theorem gy {A B:List ac} (h:fN A) (p:A.Perm B):fN B :=
 (List.Perm.pairwise_iff (fun {_ _} h e=>h ⟨e.1.symm,e.2.symm⟩) p).1 h
theorem qP (h:aJ L=true):fN L:=by
 refine (fe h).imp ?_;rintro a b hab ⟨e1,e2⟩;unfold aL at hab;rw [e1,e2,gg] at hab;cases hab
theorem lO (hw:ly M) (hu:fN M):rx M:=by
 refine (List.Pairwise.and hw hu).imp ?_;rintro a b ⟨h1,h2⟩;exact q9 h1 h2
theorem sc {F G:List ac} (u:fN F) (p:F.Perm G):aV F=aV G :=
 gE (lO (bu F).1 (gy u (bu F).2.symm)) (bu G).1 ((bu F).2.trans (p.trans (bu G).2.symm))
end Go.Proofs.YtpobkmjicbobdaaGreat
