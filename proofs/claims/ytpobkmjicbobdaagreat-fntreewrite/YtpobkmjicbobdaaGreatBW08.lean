/- Walks. -/
import Derived.Sort.Defs
import Derived.Test.YtpobkmjicbobdaaGreatBW07
import Derived.Test.YtpobkmjicbobdaaGreatBW06
namespace Go.Proofs.YtpobkmjicbobdaaGreat
set_option maxRecDepth 100000
set_option maxHeartbeats 40000000
open Go.RowKit
variable {b:Bool} {n n':Int} {t t':ByteArray}
section
attribute [local go_sem] Ic
def f5 (c:dE):Value:=.agg #[.bool c.1,.string c.2.1,iT c.2.2]
def fh (b:Bool) (t:ByteArray) (n:Int) (d:Int) (t':ByteArray) (n':Int):dE :=
 if d=1 then (true,t',n') else if d=2 then (false,⟨#[]⟩,0) else if d=3 then (true,t,wrap64 (n+n')) else (b,t,n)
theorem zZ:fh b t n 1 t' n'=(true,t',n'):=by simp [fh]
theorem zY:fh b t n 2 t' n'=(false,⟨#[]⟩,0):=by simp [fh]
theorem zW:fh b t n 3 t' n'=(true,t,wrap64 (n+n')):=by simp [fh]
theorem z6 {d:Int} (h1:¬d=1) (h2:¬d=2) (h3:¬d=3):fh b t n d t' n'=(b,t,n):=by simp [fh,h1,h2,h3]
theorem rP (b:Bool) (t k t':ByteArray) (n q d n':Int) (w:World) :
 Calls Tryz.prog 311 #[.agg #[],.agg #[.bool b,.string t,iT n],.agg #[.string k,iT q,iT d,.string t',iT n']] w fun e w'=>e=.returned (f5 (true,t',n'))∧Bl w w':=by
 go_enter Tryz.func311,Tryz.ntmps311
 go_wp2;refine bodyPost_ret (v:=.agg #[.bool true,.string t',iT n']) (by simp [results,Tryz.results311,go_sem]) rfl ⟨rfl,?_⟩;exact (((bZ.alloc (by simp) _).alloc (by simp;omega) _).alloc (by simp;omega) _)
theorem rS (b:Bool) (t k t':ByteArray) (n q d n':Int) (w:World) :
 Calls Tryz.prog 313 #[.agg #[],.agg #[.bool b,.string t,iT n],.agg #[.string k,iT q,iT d,.string t',iT n']] w fun e w'=>e=.returned (f5 (false,⟨#[]⟩,0))∧Bl w w':=by
 go_enter Tryz.func313,Tryz.ntmps313
 go_wp2;refine bodyPost_ret (v:=.agg #[.bool false,.string ⟨#[]⟩,iT 0]) (by simp [results,Tryz.results313,go_sem]) rfl ⟨rfl,?_⟩;exact (((bZ.alloc (by simp) _).alloc (by simp;omega) _).alloc (by simp;omega) _)
theorem rU (b:Bool) (t k t':ByteArray) (n q d n':Int) (w:World) :
 Calls Tryz.prog 315 #[.agg #[],.agg #[.bool b,.string t,iT n],.agg #[.string k,iT q,iT d,.string t',iT n']] w fun e w'=>e=.returned (f5 (true,t,wrap64 (n+n')))∧Bl w w':=by
 go_enter Tryz.func315,Tryz.ntmps315
 go_wp2;refine bodyPost_ret (v:=.agg #[.bool true,.string t,iT (wrap64 (n+n'))]) (by simp [results,Tryz.results315,go_sem]) rfl ⟨rfl,?_⟩;exact (((bZ.alloc (by simp) _).alloc (by simp;omega) _).alloc (by simp;omega) _)
theorem tV (b:Bool) (t k t':ByteArray) (n q d n':Int) (w:World) :
 Calls Tryz.prog 317 #[.agg #[],.agg #[.bool b,.string t,iT n],.agg #[.string k,iT q,iT d,.string t',iT n']] w fun e w'=>e=.returned (f5 (b,t,n))∧Bl w w':=by
 go_enter Tryz.func317,Tryz.ntmps317
 go_wp2;refine bodyPost_ret (v:=.agg #[.bool b,.string t,iT n]) (by simp [results,Tryz.results317,go_sem]) rfl ⟨rfl,?_⟩;exact (((bZ.alloc (by simp) _).alloc (by simp;omega) _).alloc (by simp;omega) _)
end
end Go.Proofs.YtpobkmjicbobdaaGreat
namespace Go.Proofs.YtpobkmjicbobdaaGreat
open Go.RowKit
def lA (L : List ac) (q : Int) : Nat → Nat
  | 0 => 0
  | k + 1 => match L[k]? with
    | none => k + 1
    | some x => if q < x.2.1 then lA L q k else k + 1
theorem yi (L : List ac) (q : Int) : ∀ k, lA L q k ≤ k
  | 0 => GL _
  | k + 1 => by
    have d := yi L q k
    unfold lA
    split
    · exact GL _
    · split <;> omega
def fG (L : List ac) (e : ac) : List ac := L.take (lA L e.2.1 L.length) ++ ([e] ++ L.drop (lA L e.2.1 L.length))
def bH (L : List ac) : List ac := L.foldl fG []
theorem C5 (L : List ac) (e : ac) : (fG L e).length = L.length + 1 := by
  have := yi L e.2.1 L.length
  simp [fG]
  omega
theorem Bj (L : List ac) : ∀ A : List ac, (L.foldl fG A).length = A.length + L.length := by
  induction L with
  | nil => intro A; simp
  | cons e r d => intro A; rw [List.foldl_cons, d, C5, Hn]; omega
theorem fg (L : List ac) : (bH L).length = L.length := by
  have := Bj L []
  simpa [bH] using this
theorem lO (L : List ac) (e : ac) : bH (L ++ [e]) = fG (bH L) e := by simp [bH]
theorem tY {L : List ac} {k : Nat} {e : ac} (h : L[k]? = some e) : bH (L.take (k + 1)) = fG (bH (L.take k)) e := by
  rw [Hc, h]
  exact lO _ _
theorem AD (L : List ac) (e : ac) : (fG L e).Perm (e :: L) := by
  unfold fG
  refine (List.perm_append_comm_assoc _ _ _).trans ?_
  simp
theorem jn (L : List ac) : (bH L).Perm L := by
  have key : ∀ (L A : List ac), (L.foldl fG A).Perm (A ++ L) := by
    intro L
    induction L with
    | nil => intro A; simp
    | cons e r d =>
      intro A
      rw [List.foldl_cons]
      refine (d _).trans ?_
      refine ((AD A e).append_right r).trans ?_
      simp only [Ht]
      exact List.perm_middle.symm
  have := key L []
  simpa [bH] using this
theorem rW {L : List ac} {e : ac} : e ∈ bH L ↔ e ∈ L := (jn L).mem_iff
/-! The insertion sort that the library runs is this one. -/
open Go.Sort in
theorem Ew (P R : List ac) (a b : ac) : Sort.swp (P ++ a :: b :: R).toArray (P.length + 1) P.length = (P ++ b :: a :: R).toArray := by
  unfold Sort.swp
  apply Array.ext'
  simp
def yx (x y : ac) : Bool := decide (x.2.1 < y.2.1)
theorem tD (A B : List ac) (e : ac) : ∀ j, j ≤ A.length → Sort.insInner yx 0 j (A.take j ++ e :: (A.drop j ++ B)).toArray = (A.take (lA A e.2.1 j) ++ e :: (A.drop (lA A e.2.1 j) ++ B)).toArray
  | 0, _ => by simp [Sort.insInner, lA]
  | j + 1, o => by
    have d : j < A.length := o
    obtain ⟨a, ha⟩ : ∃ a, A[j]? = some a := ⟨_, j' d⟩
    have f : A[j] = a := by rw [j' d] at ha; exact GN ha
    have h1 : A.take (j + 1) = A.take j ++ [a] := by rw [Hc, ha]; rfl
    have hl : (A.take j).length = j := by simp; omega
    have g : A.take (j + 1) ++ e :: (A.drop (j + 1) ++ B) = A.take j ++ a :: e :: (A.drop (j + 1) ++ B) := by rw [h1]; simp
    have hd : A.drop j = a :: A.drop (j + 1) := by rw [← f]; exact Ie d
    have m : ((A.take j ++ a :: e :: (A.drop (j + 1) ++ B)).toArray)[j + 1]! = e := by
      have : (A.take j ++ a :: e :: (A.drop (j + 1) ++ B))[j + 1]? = some e := by
        rw [GR (by omega), hl]
        simp
      simp [this]
    have s : ((A.take j ++ a :: e :: (A.drop (j + 1) ++ B)).toArray)[j]! = a := by
      have : (A.take j ++ a :: e :: (A.drop (j + 1) ++ B))[j]? = some a := by
        rw [GR (by omega), hl]
        simp
      simp [this]
    have r := tD A B e j (by omega)
    rw [g, Sort.insInner, m, s]
    have hp : lA A e.2.1 (j + 1) = if e.2.1 < a.2.1 then lA A e.2.1 j else j + 1 := by
      rw [lA, ha]
    by_cases hc : e.2.1 < a.2.1
    · have hs : Sort.swp (A.take j ++ a :: e :: (A.drop (j + 1) ++ B)).toArray (j + 1) j = (A.take j ++ e :: (A.drop j ++ B)).toArray := by
        have := Ew (A.take j) (A.drop (j + 1) ++ B) a e
        rw [hl] at this
        rw [this, hd]
        simp
      rw [hp, if_pos hc, hs]
      simp only [yx, hc]
      simpa using r
    · rw [hp, if_neg hc]
      simp [yx, hc, g]
theorem EN (A B : List ac) (e : ac) : Sort.insInner yx 0 A.length (A ++ e :: B).toArray = (fG A e ++ B).toArray := by
  have := tD A B e A.length (GL _)
  simp only [List.take_length, List.drop_length, Ho] at this
  rw [this]
  simp [fG]
/-! What a key has. -/
def sS (c : dE) (e : ac) : dE := fh c.1 c.2.1 c.2.2 e.2.2.1 e.2.2.2.1 e.2.2.2.2
def nq (L : List ac) : dE := L.foldl sS (false, ⟨#[]⟩, 0)
def eX (L : List ac) (key : ByteArray) (seq : Int) : dE := nq (bH (bw L key seq))
theorem rj {L : List ac} {k : Nat} {e : ac} (h : L[k]? = some e) : nq (L.take (k + 1)) = sS (nq (L.take k)) e := by
  rw [Hc, h]
  simp [nq]
end Go.Proofs.YtpobkmjicbobdaaGreat
namespace Go.Proofs.YtpobkmjicbobdaaGreat
open Go.RowKit
/-! What the laws of cells say, of lists alone. -/
theorem DP {L : List ac} {key : ByteArray} {seq : Int} {e : ac} (h : e ∈ bw L key seq) : e.1 = key ∧ e.2.1 ≤ seq := by
  have := (ID.1 h).2
  simpa using this
theorem C7 {A : List ac} {q : Int} (h : ∀ x ∈ A, ¬ q < x.2.1) : lA A q A.length = A.length := by
  match hA : A.length with
  | 0 => rfl
  | k + 1 =>
    have ha := j' (show k < A.length by omega)
    rw [lA, ha]
    simp only
    rw [if_neg (h _ (Hj _))]
theorem zw (A B : List ac) (q : Int) : ∀ k, k ≤ A.length → lA (A ++ B) q k = lA A q k
  | 0, _ => rfl
  | k + 1, hk => by
    have h1 : (A ++ B)[k]? = A[k]? := GW hk
    rw [lA, lA, h1, zw A B q k (by omega)]
theorem vS {A B : List ac} {q : Int} (h : ∀ x ∈ B, q < x.2.1) : ∀ k, k ≤ B.length → lA (A ++ B) q (A.length + k) = lA A q A.length
  | 0, _ => zw A B q A.length (GL _)
  | k + 1, hk => by
    have ha : (A ++ B)[A.length + k]? = some (B[k]'hk) := by
      rw [GR (by omega), Iu, j' hk]
    show lA (A ++ B) q (A.length + k + 1) = _
    rw [lA, ha]
    simp only
    rw [if_pos (h _ (Hj _))]
    exact vS h k (by omega)
theorem mW {A B : List ac} {e : ac} (h : ∀ x ∈ B, e.2.1 < x.2.1) : fG (A ++ B) e = fG A e ++ B := by
  have hp := vS (A := A) h B.length (GL _)
  have hl := yi A e.2.1 A.length
  unfold fG
  rw [GO, hp, List.take_append_of_le_length hl, List.drop_append_of_le_length hl]
  simp
theorem tn {A : List ac} {e : ac} (h : ∀ x ∈ A, ¬ e.2.1 < x.2.1) : fG A e = A ++ [e] := by
  unfold fG
  rw [C7 h]
  simp
theorem DZ (F : List ac) (s : Int) (h : ∀ e ∈ F, e.2.1 ≤ s) : bH F = bH (F.filter (fun e => decide (e.2.1 ≤ s - 1))) ++ F.filter (fun e => decide (e.2.1 = s)) := by
  have key : ∀ m, m ≤ F.length → bH (F.take m) = bH ((F.take m).filter (fun e => decide (e.2.1 ≤ s - 1))) ++ (F.take m).filter (fun e => decide (e.2.1 = s)) := by
    intro m
    induction m with
    | zero => intro _; simp [bH]
    | succ m o =>
      intro hm
      have f : m < F.length := hm
      have hx := h F[m] (Hj _)
      rw [tY (j' f), o (by omega), Hc, j' f]
      simp only [Option.toList_some, Hw]
      by_cases g : F[m].2.1 = s
      · have e1 : List.filter (fun e => decide (e.2.1 ≤ s - 1)) [F[m]] = [] := by simp; omega
        have e2 : List.filter (fun e : ac => decide (e.2.1 = s)) [F[m]] = [F[m]] := by simp [g]
        rw [e1, e2, Iv, tn, Hd]
        intro x d
        rcases GX.1 d with h1 | h1
        · have := (ID.1 (rW.1 h1)).2
          simp at this
          omega
        · have := (ID.1 h1).2
          simp at this
          omega
      · have e1 : List.filter (fun e => decide (e.2.1 ≤ s - 1)) [F[m]] = [F[m]] := by simp; omega
        have e2 : List.filter (fun e : ac => decide (e.2.1 = s)) [F[m]] = [] := by simp [g]
        rw [e1, e2, Iv, mW, lO]
        intro x d
        have := (ID.1 d).2
        simp at this
        omega
  have := key F.length (GL _)
  rw [List.take_length] at this
  exact this
def F8 (L : List ac) (key : ByteArray) (seq : Int) : List ac := L.filter (fun e => decide (e.1 = key) && decide (e.2.1 = seq))
theorem BF (L : List ac) (key : ByteArray) (seq : Int) : eX L key seq = (F8 L key seq).foldl sS (eX L key (seq - 1)) := by
  have h := DZ (bw L key seq) seq (fun e d => (DP d).2)
  have e1 : (bw L key seq).filter (fun e => decide (e.2.1 ≤ seq - 1)) = bw L key (seq - 1) := by
    unfold bw
    rw [List.filter_filter]
    congr 1
    funext e
    by_cases h1 : e.1 = key <;> by_cases h2 : e.2.1 ≤ seq - 1 <;> simp [h1, h2] <;> omega
  have e2 : (bw L key seq).filter (fun e => decide (e.2.1 = seq)) = F8 L key seq := by
    unfold bw F8
    rw [List.filter_filter]
    congr 1
    funext e
    by_cases h1 : e.1 = key <;> by_cases h2 : e.2.1 = seq <;> simp [h1, h2]
  rw [e1, e2] at h
  unfold eX nq
  rw [h, I6]
def Fn (L : List ac) : Prop := L.Pairwise (fun a b => a.2.1 ≠ b.2.1)
theorem Fn.perm {A B : List ac} (h : Fn A) (p : A.Perm B) : Fn B := (p.pairwise_iff (fun h => IX h)).1 h
theorem vN {A : List ac} {e : ac} (h : A.Pairwise (fun a b => a.2.1 ≤ b.2.1)) : (fG A e).Pairwise (fun a b => a.2.1 ≤ b.2.1) := by
  have key : ∀ (B A : List ac), (A ++ B).Pairwise (fun a b => a.2.1 ≤ b.2.1) → (∀ x ∈ B, e.2.1 < x.2.1) → (fG (A ++ B) e).Pairwise (fun a b => a.2.1 ≤ b.2.1) := by
    intro B A
    induction hn : A.length generalizing A B with
    | zero =>
      intro hs hB
      rw [Hy] at hn
      subst hn
      rw [mW hB]
      have : fG [] e = [e] := by simp [fG, lA]
      rw [this]
      simp only [Ho] at hs
      exact Hb.2 ⟨fun x hx => by have := hB x hx; omega, hs⟩
    | succ n m =>
      intro hs hB
      obtain ⟨g, x, rfl⟩ : ∃ g x, A = g ++ [x] := ⟨A.dropLast, A.getLast (by intro h; simp [h] at hn), (List.dropLast_concat_getLast _).symm⟩
      simp at hn
      by_cases hx : e.2.1 < x.2.1
      · have := m (x :: B) g hn (by simpa using hs) (by intro y hy; rcases GZ.1 hy with rfl | hy; exact hx; exact hB y hy)
        simpa using this
      · rw [mW hB, tn]
        · rw [Hd, Hd]
          rw [Hd] at hs
          rw [Ih] at hs ⊢
          obtain ⟨h1, h2, h3⟩ := hs
          have d := (Hb.1 (show (x :: B).Pairwise (fun a b => a.2.1 ≤ b.2.1) by simpa using h2))
          refine ⟨h1, ?_, ?_⟩
          · simp only [List.singleton_append]
            rw [Hb, Hb]
            refine ⟨?_, ?_, d.2⟩
            · intro y hy
              rcases GZ.1 hy with rfl | hy
              · omega
              · exact d.1 y hy
            · intro y hy
              have := hB y hy
              omega
          · intro y hy z hz
            simp only [List.singleton_append, GZ] at hz
            have f := h3 y hy x (by simp)
            rcases hz with rfl | rfl | hz
            · exact f
            · omega
            · exact h3 y hy z (by simp [hz])
        · intro y hy
          rcases GX.1 hy with hy | hy
          · rw [Hd, Ih] at hs
            have := hs.2.2 y hy x (by simp)
            omega
          · simp at hy
            subst hy
            exact hx
  have := key [] A (by simpa using h) (by simp)
  simpa using this
theorem fe (L : List ac) : (bH L).Pairwise (fun a b => a.2.1 ≤ b.2.1) := by
  have key : ∀ (L A : List ac), A.Pairwise (fun a b => a.2.1 ≤ b.2.1) → (L.foldl fG A).Pairwise (fun a b => a.2.1 ≤ b.2.1) := by
    intro L
    induction L with
    | nil => intro A h; exact h
    | cons e r d => intro A h; exact d _ (vN h)
  exact key L [] List.Pairwise.nil
theorem ps {L : List ac} (h : Fn L) : (bH L).Pairwise (fun a b => a.2.1 < b.2.1) := by
  have h1 := fe L
  have h2 : Fn (bH L) := h.perm (jn L).symm
  exact (h1.and h2).imp (fun {a b} hh => by have := hh.1; have := hh.2; omega)
theorem o7 : ∀ {A B : List ac}, A.Perm B → A.Pairwise (fun a b => a.2.1 < b.2.1) → B.Pairwise (fun a b => a.2.1 < b.2.1) → A = B
  | [], B, p, _, _ => (List.nil_perm.1 p).symm
  | a :: A, [], p, _, _ => by cases List.nil_perm.1 p.symm
  | a :: A, b :: B, p, hA, hB => by
    have e := Hb.1 hA
    have d := Hb.1 hB
    have f : a = b := by
      rcases GZ.1 (p.mem_iff.1 (Ha (a := a) (l := A))) with h | h
      · exact h
      · rcases GZ.1 (p.mem_iff.2 (Ha (a := b) (l := B))) with h' | h'
        · exact h'.symm
        · have x1 := d.1 a h
          have g := e.1 b h'
          omega
    subst f
    rw [o7 ((List.perm_cons a).1 p) e.2 d.2]
theorem tZ {A B : List ac} (hA : Fn A) (p : A.Perm B) : bH A = bH B :=
  o7 ((jn A).trans (p.trans (jn B).symm)) (ps hA) (ps (hA.perm p))
end Go.Proofs.YtpobkmjicbobdaaGreat
namespace Go.Proofs.YtpobkmjicbobdaaGreat
open Go.RowKit
/-! A cell is its last reset and what was added since. -/
end Go.Proofs.YtpobkmjicbobdaaGreat
namespace Go.Proofs.YtpobkmjicbobdaaGreat
set_option maxRecDepth 100000
set_option maxHeartbeats 40000000
open Go.RowKit
variable {L M:List ac} {base c n:Nat} {w w':World}
def ev (M : List ac) (c : dE) : dE := M.foldr (fun e c => sS c e) c
def noC : dE := (false, ⟨#[]⟩, 0)
theorem x7 (h : aI L = true) : L.Pairwise (fun a b => bI a.1 a.2.1 b.1 b.2.1 = true) := by
  rw [Hl]
  intro i j hi e d
  exact fF h d (j' hi) (j' e)
/-! One class. -/
open Go.RowKit in
def sY (s : Int) (X : dE) : dE := (true, X.2.1, wrap64 (X.2.2 + s))
theorem F4 (X : dE) {e : ac} (h : e.2.2.1 = 1) : sS X e = (true, e.2.2.2.1, e.2.2.2.2) := by simp [sS, fh, h]
theorem F3 (X : dE) {e : ac} (h : e.2.2.1 = 2) : sS X e = (false, ⟨#[]⟩, 0) := by simp [sS, fh, h]
theorem F2 (X : dE) {e : ac} (h : e.2.2.1 = 3) : sS X e = sY e.2.2.2.2 X := by simp [sS, fh, h, sY]
open Go.RowKit in
theorem Ac (x a b : Int) : wrap64 (wrap64 (x + a) + b) = wrap64 (x + (b + a)) := by unfold wrap64; omega
theorem add_add (a b : Int) (X : dE) : sY a (sY b X) = sY (a + b) X := by
  unfold sY
  simp only [Ac]
def Gp (e : ac) : Prop := (e.2.2.1 = 1 ∨ e.2.2.1 = 2 ∨ e.2.2.1 = 3) ∧ (e.2.2.1 = 2 → e.2.2.2.2 = 0)
open Go.RowKit in
theorem tC : ∀ (L : List ac) (d : Int) (X : dE), (∀ e ∈ L, Gp e) →
    sY d (ev L X) = (if (bg false d L).1 = 3 then sY (bg false d L).2.2 X else (true, (bg false d L).2.1, wrap64 (bg false d L).2.2)) ∧ ((bg false d L).1 = 1 ∨ ((bg false d L).1 = 3 ∧ (bg false d L).2.1 = ⟨#[]⟩))
  | [], d, X, _ => by simp [bg, ev]
  | e :: R, d, X, h => by
    obtain ⟨hk, h0⟩ := h e Ha
    have e1 : ev (e :: R) X = sS (ev R X) e := rfl
    rw [e1]
    rcases hk with hk | hk | hk
    · have f : bg false d (e :: R) = (1, e.2.2.2.1, d + e.2.2.2.2) := by simp [bg, hk]
      rw [f, F4 _ hk]
      simp only [sY]
      rw [if_neg (by omega), Int.add_comm]
      exact ⟨rfl, .inl trivial⟩
    · have f : bg false d (e :: R) = (1, ⟨#[]⟩, d + e.2.2.2.2) := by simp [bg, hk]
      rw [f, F3 _ hk, h0 hk]
      simp only [sY]
      rw [if_neg (by omega), Int.add_comm]
      exact ⟨rfl, .inl trivial⟩
    · have f : bg false d (e :: R) = bg false (d + e.2.2.2.2) R := by
        conv => lhs; unfold bg
        rw [if_neg (by omega), if_neg (by omega)]
      rw [f, F2 _ hk, add_add]
      exact tC R (d + e.2.2.2.2) X (fun x hx => h x (He _ hx))
theorem E0 (b : Bool) : ∀ (c : List ac) (x : ac), x ∈ nW b c → ∃ y ∈ c, x.1 = y.1 ∧ x.2.1 = y.2.1
  | [], x, h => by cases h
  | e :: R, x, h => by
    have h' : x ∈ eE b e.1 e.2.1 (e :: R) := h
    unfold eE at h'
    by_cases h1 : eC (bg true 0 (e :: R)).2.2 = true
    · rw [if_pos h1] at h'
      by_cases h2 : b = true ∧ (bg true 0 (e :: R)).1 = 2
      · rw [if_pos h2] at h'; cases h'
      · rw [if_neg h2] at h'
        have := G5.1 h'
        rw [this]
        exact ⟨e, Ha, rfl, rfl⟩
    · rw [if_neg h1] at h'
      exact ⟨x, h', rfl, rfl⟩
/-! The classes of a key. -/
/-! All keys. -/
/-! One class and its one entry. -/
theorem AS : ∀ (L : List ac) (d : Int), (∀ e ∈ L, Gp e) → (bg false d L).1 = 1 ∨ ((bg false d L).1 = 3 ∧ (bg false d L).2.1 = ⟨#[]⟩) := fun L d h => (tC L d noC h).2
theorem yL (e : ac) (R : List ac) (h : ∀ x ∈ e :: R, Gp x) : (bg true 0 (e :: R)).1 = 1 ∨ ((bg true 0 (e :: R)).1 = 2 ∧ (bg true 0 (e :: R)).2.1 = ⟨#[]⟩ ∧ (bg true 0 (e :: R)).2.2 = 0) ∨ ((bg true 0 (e :: R)).1 = 3 ∧ (bg true 0 (e :: R)).2.1 = ⟨#[]⟩) := by
  obtain ⟨hk, h0⟩ := h e Ha
  rcases hk with hk | hk | hk
  · have d : bg true 0 (e :: R) = (1, e.2.2.2.1, 0 + e.2.2.2.2) := by simp [bg, hk]
    rw [d]; exact .inl rfl
  · have d : bg true 0 (e :: R) = (2, ⟨#[]⟩, 0 + e.2.2.2.2) := by simp [bg, hk]
    rw [d, h0 hk]; exact .inr (.inl ⟨rfl, rfl, rfl⟩)
  · have d : bg true 0 (e :: R) = bg false (0 + e.2.2.2.2) R := by
      conv => lhs; unfold bg
      rw [if_neg (by omega), if_neg (by omega)]
    rw [d]
    rcases AS R (0 + e.2.2.2.2) (fun x hx => h x (He _ hx)) with h1 | h1
    · exact .inl h1
    · exact .inr (.inr h1)
/-! The classes of a key. -/
/-! All keys. -/
theorem wH : ∀ (L : List ac) (f : Bool) (d : Int), (∀ e ∈ L, e.2.2.2.1.size ≤ 60) → (bg f d L).2.1.size ≤ 60 := by
  intro L
  induction L with
  | nil => intro f d _; exact GQ _
  | cons e R g =>
    intro f d h
    unfold bg
    split
    · exact h e (Ha ..)
    · split
      · exact GQ _
      · exact g false _ (fun x hx => h x (He _ hx))
def y6 (e : ac) : Bool := dM e.1 e.2.1 e.2.2.1 e.2.2.2.1 e.2.2.2.2
theorem zM {e: ac} (h : y6 e = true) : Gp e ∧ e.2.2.2.1.size ≤ 60 := by
  unfold y6 dM at h
  simp only [G2, decide_eq_true_eq] at h
  obtain ⟨_, _, _, _, _, h5, h6⟩ := h
  refine ⟨⟨?_, ?_⟩, h5⟩
  · by_cases f : e.2.2.1 = 1
    · exact .inl f
    · by_cases d : e.2.2.1 = 2
      · exact .inr (.inl d)
      · by_cases g : e.2.2.1 = 3
        · exact .inr (.inr g)
        · rw [pO f d g] at h6; cases h6
  · intro d
    rw [d, iO] at h6
    simp only [G2, decide_eq_true_eq] at h6
    exact h6.2
theorem FK (b : Bool) : ∀ c : List ac, (∀ e ∈ c, y6 e = true) → ∀ x ∈ nW b c, y6 x = true
  | [], _, x, hx => by cases hx
  | e :: R, h, x, hx => by
    by_cases hs : eC (bg true 0 (e :: R)).2.2 = true
    · have o := h e Ha
      have m := wH (e :: R) true 0 (fun y hy => (zM (h y hy)).2)
      have hf := yL e R (fun y hy => (zM (h y hy)).1)
      have f : x ∈ eE b e.1 e.2.1 (e :: R) := hx
      unfold eE at f
      rw [if_pos hs] at f
      obtain ⟨d, t, s, r⟩ : ∃ d t s, bg true 0 (e :: R) = (d, t, s) := ⟨_, _, _, rfl⟩
      rw [r] at hs hf m f
      simp only at hs hf m f
      by_cases h2 : b = true ∧ d = 2
      · rw [if_pos h2] at f; cases f
      · rw [if_neg h2] at f
        have g := G5.1 f
        rw [g]
        unfold y6 dM at o ⊢
        simp only [G2, decide_eq_true_eq, eC] at o hs ⊢
        obtain ⟨a1, a2, a3, _⟩ := o
        refine ⟨a1, a2, a3, hs.1, hs.2, m, ?_⟩
        by_cases h3 : b = true ∧ d = 3
        · rw [if_pos h3]; exact pN
        · rw [if_neg h3]
          rcases hf with rfl | ⟨rfl, rfl, rfl⟩ | ⟨rfl, rfl⟩
          · exact pN
          · rw [iO]; rfl
          · rw [nd]; rfl
    · have f : x ∈ eE b e.1 e.2.1 (e :: R) := hx
      unfold eE at f
      rw [if_neg hs] at f
      exact h x f
theorem qh (p : ac → Prop) (S : List Int) (d : Bool) {L : List ac} (r : ∀ b c, (∀ e ∈ c, e ∈ L) → c.length ≤ L.length → ∀ x ∈ nW b c, p x) : ∀ x ∈ bT L S d, p x := by
  unfold bT
  by_cases hr : aI L = true
  · rw [if_pos hr]
    intro x hx
    obtain ⟨G, hG, o⟩ := IR.1 hx
    have key : ∀ g : List (List ac), (∀ c ∈ g, (∀ e ∈ c, e ∈ L) ∧ c.length ≤ L.length) → ∀ e ∈ (g.foldr (Sq.stepD nW) (d, [])).2, p e := by
      intro g
      induction g with
      | nil => intro _ e f; cases f
      | cons c g y =>
        intro h e f
        have m := y (fun x hx => h x (He _ hx))
        rw [List.foldr_cons] at f
        generalize g.foldr (Sq.stepD nW) (d, []) = u at m f
        have s : e ∈ nW u.1 c ++ u.2 := f
        rcases GX.1 s with h1 | h1
        · exact r _ c (h c Ha).1 (h c Ha).2 e h1
        · exact m e h1
    exact key _ (fun c hc => ⟨fun e f => (jc _ _ G hG).2 e ((jc _ _ c hc).2 e f), GU (jc _ _ c hc).1 (jc _ _ G hG).1⟩) x o
  · rw [if_neg hr]; intro x hx; cases hx
theorem vr (h : ∀ e ∈ L, y6 e = true) (S : List Int) (d : Bool) : ∀ x ∈ bT L S d, y6 x = true :=
  qh _ S d (fun b c hc _ => FK b c (fun e f => h e (hc e f)))
/-! Keys and times of what is left. -/
def kq (e : ac) : ByteArray × Int := (e.1, e.2.1)
theorem FJ (b : Bool) : ∀ c : List ac, ((nW b c).map kq).Sublist (c.map kq)
  | [] => IU _
  | e :: R => by
    show ((eE b e.1 e.2.1 (e :: R)).map kq).Sublist _
    unfold eE
    by_cases h1 : eC (bg true 0 (e :: R)).2.2 = true
    · rw [if_pos h1]
      by_cases h2 : b = true ∧ (bg true 0 (e :: R)).1 = 2
      · rw [if_pos h2]; exact List.nil_sublist _
      · rw [if_neg h2]
        simp only [IH, I9, kq]
        exact List.Sublist.cons_cons _ (List.nil_sublist _)
    · rw [if_neg h1]; exact IU _
theorem wG (d : Bool) : ∀ e : List (List ac), ((e.foldr (Sq.stepD nW) (d, [])).2.map kq).Sublist (e.flatten.map kq)
  | [] => IU _
  | c :: e => by
    have f := wG d e
    rw [List.foldr_cons, Ip, Iw]
    generalize e.foldr (Sq.stepD nW) (d, []) = g at f ⊢
    show ((nW g.1 c ++ g.2).map kq).Sublist _
    rw [Iw]
    exact Je (FJ _ c) f
theorem rl (S : List Int) (d : Bool) : ∀ e : List (List ac), ((e.flatMap (fc S d)).map kq).Sublist (e.flatten.map kq)
  | [] => IU _
  | G :: e => by
    have f := rl S d e
    have h := wG d (Sq.parts (im S) G)
    rw [Sq.parts_flat] at h
    rw [I7, Ip, Iw, Iw]
    exact Je h f
theorem vq (h : L.Pairwise (fun a b => bI a.1 a.2.1 b.1 b.2.1 = true)) (S : List Int) (d : Bool) : (bT L S d).Pairwise (fun a b => bI a.1 a.2.1 b.1 b.2.1 = true) := by
  unfold bT
  by_cases hr : aI L = true
  · rw [if_pos hr]
    have hs := rl S d (Sq.parts fA L)
    rw [Sq.parts_flat] at hs
    have h1 : (L.map kq).Pairwise (fun a b => bI a.1 a.2 b.1 b.2 = true) := List.pairwise_map.2 h
    exact List.pairwise_map.1 (h1.sublist hs)
  · rw [if_neg hr]; exact List.Pairwise.nil
theorem AB (hl : L.length = n) (h1 : ∀ e ∈ L, dM e.1 e.2.1 e.2.2.1 e.2.2.2.1 e.2.2.2.2 = true) (h2 : ∀ j, 1 ≤ j → j < n → ∀ x y, L[j - 1]? = some x → L[j]? = some y → bI x.1 x.2.1 y.1 y.2.1 = true) : aI L = true := by
  refine mT (k := n) (fun j g => ?_) (by omega)
  have d : j < L.length := by omega
  have f := j' d
  match j, g, d, f with
  | 0, _, d, f => rw [lE f]; exact h1 _ (Hj d)
  | j + 1, g, d, f =>
    have hd := j' (l := L) (i := j) (by omega)
    rw [je f hd, h1 _ (Hj d), h2 (j + 1) (by omega) g _ _ (show L[j + 1 - 1]? = _ from hd) f]
    rfl
theorem jz (hr : aI L = true) (S : List Int) (d : Bool) : aI (bT L S d) = true := by
  have hp := vq (x7 hr) S d
  refine AB rfl (vr (fun e m => by obtain ⟨j, f⟩ := Hr m; exact eo hr f) S d) (fun j h1 h2 x y hx hy => ?_)
  obtain ⟨hi, o⟩ := F'.1 hx
  obtain ⟨f, g⟩ := F'.1 hy
  have := (Hl.1 hp) (j - 1) j hi f (by omega)
  rw [o, g] at this
  exact this
structure cE (w:World) (base:Nat) (a:Option Addr) (n c:Nat) (L:List ac):Prop where
 nil:a=none→n=0∧c=0∧L=[]
 own:∀x,a=some x→∃g,x=⟨g,0,none⟩∧ag w base g n c L
theorem cE.some {g:Nat} (h:ag w base g n c L):cE w base (pT g) n c L:=⟨(fun e=>by cases e),(fun x e=>by cases e;exact ⟨g,rfl,h⟩)⟩
theorem cE.none (w:World) (base:Nat):cE w base none 0 0 []:=⟨fun _=>⟨rfl,rfl,rfl⟩,fun x e=>by cases e⟩
theorem cE.len {a:Option Addr} (h:cE w base a n c L):L.length=n:=by
 cases a with
 | none=>obtain ⟨h1,_,h3⟩:=h.nil rfl;rw [h1,h3];rfl
 | some x=>obtain ⟨g,_,h2⟩:=h.own x rfl;exact h2.len
theorem cE.entsAt {a:Option Addr} (h:cE w base a n c L):ah w a n c L:=by
 cases a with
 | none =>
  obtain ⟨h1,h2,h3⟩:=h.nil rfl;subst h1 h2 h3;exact ⟨rfl,GL _,GQ _,by simp,fun _=>rfl,(fun x e=>by cases e),(fun x e=>by cases e)⟩
 | some x=>obtain ⟨g,rfl,h2⟩:=h.own x rfl;exact h2.entsAt
theorem cE.lt {a:Option Addr} (h:cE w base a n c L):∀x,a=.some x→base≤x.block∧x.block<w.heap.size:=fun x e=>by
 obtain ⟨g,rfl,h2⟩:=h.own x e
 exact h2.lt
theorem cE.grown {a:Option Addr} {row:Option Nat} (h:cE w base a n c L) (hg:w.grownBy w' row) (d:∀x,a=.some x→.some x.block≠row):cE w' base a n c L :=
 ⟨h.nil,fun x e=>by obtain ⟨g,rfl,h2⟩:=h.own x e;exact ⟨g,rfl,h2.grown hg (d _ e)⟩⟩
theorem cE.mono {base':Nat} {a:Option Addr} (h:cE w base a n c L) (hb:base'≤base):cE w base' a n c L :=
 ⟨h.nil,fun x e=>by obtain ⟨g,rfl,h2⟩:=h.own x e;exact ⟨g,rfl,h2.mono hb⟩⟩
theorem rh (hb:Bl w w'):w.grownBy w' none:=⟨hb.os,hb.tape,hb.output,hb.size,fun k hk _=>hb.block k hk⟩
theorem cE.below {a:Option Addr} (h:cE w base a n c L) (hb:Bl w w'):cE w' base a n c L:=h.grown (rh hb) (fun x _ e=>by cases e)
theorem BJ (w:World) (T:TypeId) (s t:ByteArray) (q d n:Int):∀j u,(bi (s,q,d,t,n))[j]?=some u→(w.alloc (.cells #[.string s,iT q,iT d,.string t,iT n] T)).cell? ((⟨w.heap.size,0,none⟩:Addr).add j)=some u:=by
 intro j u e;rw [G6];match j,e with
 | 0,e=>simp [bi] at e;subst e;simp
 | 1,e=>simp [bi] at e;subst e;simp
 | 2,e=>simp [bi] at e;subst e;simp
 | 3,e=>simp [bi] at e;subst e;simp
 | 4,e=>simp [bi] at e;subst e;simp
 | j+5,e=>simp [bi] at e
theorem zu {W:World} {b b' e y s B n':Nat} {v r:Value} {xs m:List Value} (h:W.ownsRow b e s v n xs) (h':W.ownsRow b' y B r n' m) (o:e≠y) {k:Nat} (hk:v.ownBlock=some k):r.ownBlock≠some k:=fun f=>by
 rcases h.2 with ⟨rfl,_⟩ | ⟨g,C,A,rfl,_,hg,_⟩
 · cases hk
 · cases hk
   rcases h'.2 with ⟨rfl,_⟩ | ⟨D,u,x,rfl,_,d,_⟩
   · cases f
   · cases f
     rw [hg] at d
     cases d
     exact o rfl
theorem gY (hs:uZ M) (f:∀e ∈ M,dM e.1 e.2.1 e.2.2.1 e.2.2.2.1 e.2.2.2.2=true):aI M=true:=by
 refine mT (k:=M.length) ?_ (GL _);intro j d;have hg:M[j]?=some M[j]:=j' d;match j,d,hg with
 | 0,d,hg=>rw [lE hg];exact f _ (Hj d)
 | i+1,d,hg =>
  have hi:M[i]?=some (M[i]'(by omega)):=j' (by omega);rw [je hg hi,f _ (Hj d)];exact (Hl.1 hs) i (i+1) (by omega) d (by omega)
theorem uC {a b:ac} (h:aU b a=false) (hd:¬(a.1=b.1∧a.2.1=b.2.1)):aU a b=true:=by
 have h1:=tA a.1 b.1 a.2.1 b.2.1;unfold aU at h ⊢;rw [h,Bool.or_false] at h1;rw [h1];by_cases e:a.1=b.1
 · have:¬a.2.1=b.2.1:=fun e2=>hd ⟨e,e2⟩
   simp [this]
 · simp [e]
def f6 (L:List ac):Prop:=L.Pairwise (fun a b=>¬(a.1=b.1∧a.2.1=b.2.1))
theorem iI {A B:List ac} (h:f6 A) (p:A.Perm B):f6 B :=
 (List.Perm.pairwise_iff (fun {_ _} h e=>h ⟨e.1.symm,e.2.symm⟩) p).1 h
theorem ug (h:aI L=true):f6 L:=by
 refine (fW h).imp ?_;rintro a b d ⟨e1,e2⟩;unfold aU at d;rw [e1,e2,iy] at d;cases d
theorem oh (hw:nR M) (d:f6 M):uZ M:=by
 refine (List.Pairwise.and hw d).imp ?_;rintro a b ⟨h1,h2⟩;exact uC h1 h2
theorem o9 {F G:List ac} (u:f6 F) (p:F.Perm G):aS F=aS G :=
 iK (oh (bu F).1 (iI u (bu F).2.symm)) (bu G).1 ((bu F).2.trans (p.trans (bu G).2.symm))
end Go.Proofs.YtpobkmjicbobdaaGreat
