/- Walks. -/
import Derived.Sort.Defs
import Derived.Test.YtpobkmjicbobdaaGreatBc08
namespace Go.Proofs.YtpobkmjicbobdaaGreat
open Go.RowKit
def io (L : List ae) (q : Int) : Nat → Nat
  | 0 => 0
  | k + 1 => match L[k]? with
    | none => k + 1
    | some x => if q < x.2.1 then io L q k else k + 1
theorem wM (L : List ae) (q : Int) : ∀ k, io L q k ≤ k
  | 0 => Fv _
  | k + 1 => by
    have b := wM L q k
    unfold io
    split
    · exact Fv _
    · split <;> omega
def eX (L : List ae) (e : ae) : List ae := L.take (io L e.2.1 L.length) ++ ([e] ++ L.drop (io L e.2.1 L.length))
def bE (L : List ae) : List ae := L.foldl eX []
theorem pD (L : List ae) (e : ae) : (eX L e).length = L.length + 1 := by
  have := wM L e.2.1 L.length
  simp [eX]
  omega
theorem Ak (L : List ae) : ∀ A : List ae, (L.foldl eX A).length = A.length + L.length := by
  induction L with
  | nil => intro A; simp
  | cons e r b => intro A; rw [List.foldl_cons, b, pD, F5]; omega
theorem fb (L : List ae) : (bE L).length = L.length := by
  have := Ak L []
  simpa [bE] using this
theorem kU (L : List ae) (e : ae) : bE (L ++ [e]) = eX (bE L) e := by simp [bE]
theorem At {L : List ae} {k : Nat} {e : ae} (h : L[k]? = some e) : bE (L.take (k + 1)) = eX (bE (L.take k)) e := by
  rw [FU, h]
  exact kU _ _
theorem zw (L : List ae) (e : ae) : (eX L e).Perm (e :: L) := by
  unfold eX
  refine (List.perm_append_comm_assoc _ _ _).trans ?_
  simp
theorem iV (L : List ae) : (bE L).Perm L := by
  have key : ∀ (L A : List ae), (L.foldl eX A).Perm (A ++ L) := by
    intro L
    induction L with
    | nil => intro A; simp
    | cons e r b =>
      intro A
      rw [List.foldl_cons]
      refine (b _).trans ?_
      refine ((zw A e).append_right r).trans ?_
      simp only [Gd]
      exact List.perm_middle.symm
  have := key L []
  simpa [bE] using this
theorem Cv {L : List ae} {e : ae} : e ∈ bE L ↔ e ∈ L := (iV L).mem_iff
/-! The insertion sort that the library runs is this one. -/
open Go.Sort in
theorem Dj (P R : List ae) (a b : ae) : Sort.swp (P ++ a :: b :: R).toArray (P.length + 1) P.length = (P ++ b :: a :: R).toArray := by
  unfold Sort.swp
  apply Array.ext'
  simp
def wX (x y : ae) : Bool := decide (x.2.1 < y.2.1)
theorem se (A B : List ae) (e : ae) : ∀ j, j ≤ A.length → Sort.insInner wX 0 j (A.take j ++ e :: (A.drop j ++ B)).toArray = (A.take (io A e.2.1 j) ++ e :: (A.drop (io A e.2.1 j) ++ B)).toArray
  | 0, _ => by simp [Sort.insInner, io]
  | j + 1, s => by
    have b : j < A.length := s
    obtain ⟨a, ha⟩ : ∃ a, A[j]? = some a := ⟨_, j' b⟩
    have d : A[j] = a := by rw [j' b] at ha; exact Fx ha
    have h1 : A.take (j + 1) = A.take j ++ [a] := by rw [FU, ha]; rfl
    have hl : (A.take j).length = j := by simp; omega
    have f : A.take (j + 1) ++ e :: (A.drop (j + 1) ++ B) = A.take j ++ a :: e :: (A.drop (j + 1) ++ B) := by rw [h1]; simp
    have hd : A.drop j = a :: A.drop (j + 1) := by rw [← d]; exact Gj b
    have g : ((A.take j ++ a :: e :: (A.drop (j + 1) ++ B)).toArray)[j + 1]! = e := by
      have : (A.take j ++ a :: e :: (A.drop (j + 1) ++ B))[j + 1]? = some e := by
        rw [Fz (by omega), hl]
        simp
      simp [this]
    have m : ((A.take j ++ a :: e :: (A.drop (j + 1) ++ B)).toArray)[j]! = a := by
      have : (A.take j ++ a :: e :: (A.drop (j + 1) ++ B))[j]? = some a := by
        rw [Fz (by omega), hl]
        simp
      simp [this]
    have o := se A B e j (by omega)
    rw [f, Sort.insInner, g, m]
    have hp : io A e.2.1 (j + 1) = if e.2.1 < a.2.1 then io A e.2.1 j else j + 1 := by
      rw [io, ha]
    by_cases hc : e.2.1 < a.2.1
    · have hs : Sort.swp (A.take j ++ a :: e :: (A.drop (j + 1) ++ B)).toArray (j + 1) j = (A.take j ++ e :: (A.drop j ++ B)).toArray := by
        have := Dj (A.take j) (A.drop (j + 1) ++ B) a e
        rw [hl] at this
        rw [this, hd]
        simp
      rw [hp, if_pos hc, hs]
      simp only [wX, hc]
      simpa using o
    · rw [hp, if_neg hc]
      simp [wX, hc, f]
theorem Dx (A B : List ae) (e : ae) : Sort.insInner wX 0 A.length (A ++ e :: B).toArray = (eX A e ++ B).toArray := by
  have := se A B e A.length (Fv _)
  simp only [List.take_length, List.drop_length, Gb] at this
  rw [this]
  simp [eX]
/-! What a key has. -/
def AK (c : fe) (e : ae) : fe := fY c.1 c.2.1 c.2.2 e.2.2.1 e.2.2.2.1 e.2.2.2.2
def jz (L : List ae) : fe := L.foldl AK (false, ⟨#[]⟩, 0)
def gH (L : List ae) (key : ByteArray) (seq : Int) : fe := jz (bE (aR L key seq))
theorem lJ {L : List ae} {k : Nat} {e : ae} (h : L[k]? = some e) : jz (L.take (k + 1)) = AK (jz (L.take k)) e := by
  rw [FU, h]
  simp [jz]
end Go.Proofs.YtpobkmjicbobdaaGreat
namespace Go.Proofs.YtpobkmjicbobdaaGreat
open Go.RowKit
/-! What the laws of cells say, of lists alone. -/
theorem Bw {A : List ae} {q : Int} (h : ∀ x ∈ A, ¬ q < x.2.1) : io A q A.length = A.length := by
  match hA : A.length with
  | 0 => rfl
  | k + 1 =>
    have ha := j' (show k < A.length by omega)
    rw [io, ha]
    simp only
    rw [if_neg (h _ (F8 _))]
theorem ye (A B : List ae) (q : Int) : ∀ k, k ≤ A.length → io (A ++ B) q k = io A q k
  | 0, _ => rfl
  | k + 1, hk => by
    have h1 : (A ++ B)[k]? = A[k]? := FE hk
    rw [io, io, h1, ye A B q k (by omega)]
theorem uN {A B : List ae} {q : Int} (h : ∀ x ∈ B, q < x.2.1) : ∀ k, k ≤ B.length → io (A ++ B) q (A.length + k) = io A q A.length
  | 0, _ => ye A B q A.length (Fv _)
  | k + 1, hk => by
    have ha : (A ++ B)[A.length + k]? = some (B[k]'hk) := by
      rw [Fz (by omega), GI, j' hk]
    show io (A ++ B) q (A.length + k + 1) = _
    rw [io, ha]
    simp only
    rw [if_pos (h _ (F8 _))]
    exact uN h k (by omega)
theorem pC {A B : List ae} {e : ae} (h : ∀ x ∈ B, e.2.1 < x.2.1) : eX (A ++ B) e = eX A e ++ B := by
  have hp := uN (A := A) h B.length (Fv _)
  have hl := wM A e.2.1 A.length
  unfold eX
  rw [Fy, hp, List.take_append_of_le_length hl, List.drop_append_of_le_length hl]
  simp
theorem zA {A : List ae} {e : ae} (h : ∀ x ∈ A, ¬ e.2.1 < x.2.1) : eX A e = A ++ [e] := by
  unfold eX
  rw [Bw h]
  simp
def D8 (L : List ae) : Prop := L.Pairwise (fun a b => a.2.1 ≠ b.2.1)
theorem D8.perm {A B : List ae} (h : D8 A) (p : A.Perm B) : D8 B := (p.pairwise_iff (fun h => Ne.symm h)).1 h
theorem uI {A : List ae} {e : ae} (h : A.Pairwise (fun a b => a.2.1 ≤ b.2.1)) : (eX A e).Pairwise (fun a b => a.2.1 ≤ b.2.1) := by
  have key : ∀ (B A : List ae), (A ++ B).Pairwise (fun a b => a.2.1 ≤ b.2.1) → (∀ x ∈ B, e.2.1 < x.2.1) → (eX (A ++ B) e).Pairwise (fun a b => a.2.1 ≤ b.2.1) := by
    intro B A
    induction hn : A.length generalizing A B with
    | zero =>
      intro hs hB
      rw [Gk] at hn
      subst hn
      rw [pC hB]
      have : eX [] e = [e] := by simp [eX, io]
      rw [this]
      simp only [Gb] at hs
      exact FR.2 ⟨fun x hx => by have := hB x hx; omega, hs⟩
    | succ n m =>
      intro hs hB
      obtain ⟨f, x, rfl⟩ : ∃ f x, A = f ++ [x] := ⟨A.dropLast, A.getLast (by intro h; simp [h] at hn), (List.dropLast_concat_getLast _).symm⟩
      simp at hn
      by_cases hx : e.2.1 < x.2.1
      · have := m (x :: B) f hn (by simpa using hs) (by intro y hy; rcases FF.1 hy with rfl | hy; exact hx; exact hB y hy)
        simpa using this
      · rw [pC hB, zA]
        · rw [FT, FT]
          rw [FT] at hs
          rw [Gl] at hs ⊢
          obtain ⟨h1, h2, h3⟩ := hs
          have d := (FR.1 (show (x :: B).Pairwise (fun a b => a.2.1 ≤ b.2.1) by simpa using h2))
          refine ⟨h1, ?_, ?_⟩
          · simp only [List.singleton_append]
            rw [FR, FR]
            refine ⟨?_, ?_, d.2⟩
            · intro y hy
              rcases FF.1 hy with rfl | hy
              · omega
              · exact d.1 y hy
            · intro y hy
              have := hB y hy
              omega
          · intro y hy z hz
            simp only [List.singleton_append, FF] at hz
            have g := h3 y hy x (by simp)
            rcases hz with rfl | rfl | hz
            · exact g
            · omega
            · exact h3 y hy z (by simp [hz])
        · intro y hy
          rcases FI.1 hy with hy | hy
          · rw [FT, Gl] at hs
            have := hs.2.2 y hy x (by simp)
            omega
          · simp at hy
            subst hy
            exact hx
  have := key [] A (by simpa using h) (by simp)
  simpa using this
theorem fa (L : List ae) : (bE L).Pairwise (fun a b => a.2.1 ≤ b.2.1) := by
  have key : ∀ (L A : List ae), A.Pairwise (fun a b => a.2.1 ≤ b.2.1) → (L.foldl eX A).Pairwise (fun a b => a.2.1 ≤ b.2.1) := by
    intro L
    induction L with
    | nil => intro A h; exact h
    | cons e r d => intro A h; exact d _ (uI h)
  exact key L [] List.Pairwise.nil
theorem oy {L : List ae} (h : D8 L) : (bE L).Pairwise (fun a b => a.2.1 < b.2.1) := by
  have h1 := fa L
  have h2 : D8 (bE L) := h.perm (iV L).symm
  exact (h1.and h2).imp (fun {a b} hh => by have := hh.1; have := hh.2; omega)
theorem nU : ∀ {A B : List ae}, A.Perm B → A.Pairwise (fun a b => a.2.1 < b.2.1) → B.Pairwise (fun a b => a.2.1 < b.2.1) → A = B
  | [], B, p, _, _ => (List.nil_perm.1 p).symm
  | a :: A, [], p, _, _ => by cases List.nil_perm.1 p.symm
  | a :: A, b :: B, p, hA, hB => by
    have d := FR.1 hA
    have e := FR.1 hB
    have f : a = b := by
      rcases FF.1 (p.mem_iff.1 (FV (a := a) (l := A))) with h | h
      · exact h
      · rcases FF.1 (p.mem_iff.2 (FV (a := b) (l := B))) with h' | h'
        · exact h'.symm
        · have x1 := e.1 a h
          have g := d.1 b h'
          omega
    subst f
    rw [nU ((List.perm_cons a).1 p) d.2 e.2]
theorem Au {A B : List ae} (hA : D8 A) (p : A.Perm B) : bE A = bE B :=
  nU ((iV A).trans (p.trans (iV B).symm)) (oy hA) (oy (hA.perm p))
end Go.Proofs.YtpobkmjicbobdaaGreat
namespace Go.Proofs.YtpobkmjicbobdaaGreat
open Go.RowKit
/-! A cell is its last reset and what was added since. -/
end Go.Proofs.YtpobkmjicbobdaaGreat
namespace Go.Proofs.YtpobkmjicbobdaaGreat
set_option maxRecDepth 100000
set_option maxHeartbeats 40000000
open Go.RowKit
variable {C N T:List aj} {L M:List ae} {S:List Int} {base n:Nat} {r:aj} {w w':World}
def ev (M : List ae) (c : fe) : fe := M.foldr (fun e c => AK c e) c
def En : fe := (false, ⟨#[]⟩, 0)
theorem wF (h : aJ L = true) : L.Pairwise (fun a b => bI a.1 a.2.1 b.1 b.2.1 = true) := by
  rw [F2]
  intro i j hi e d
  exact ft h d (j' hi) (j' e)
/-! One class. -/
open Go.RowKit in
def ru (s : Int) (X : fe) : fe := (true, X.2.1, wrap64 (X.2.2 + s))
theorem EU (X : fe) {e : ae} (h : e.2.2.1 = 1) : AK X e = (true, e.2.2.2.1, e.2.2.2.2) := by simp [AK, fY, h]
theorem ET (X : fe) {e : ae} (h : e.2.2.1 = 2) : AK X e = (false, ⟨#[]⟩, 0) := by simp [AK, fY, h]
theorem ES (X : fe) {e : ae} (h : e.2.2.1 = 3) : AK X e = ru e.2.2.2.2 X := by simp [AK, fY, h, ru]
open Go.RowKit in
theorem yN (x a b : Int) : wrap64 (wrap64 (x + a) + b) = wrap64 (x + (b + a)) := by unfold wrap64; omega
theorem add_add (a b : Int) (X : fe) : ru a (ru b X) = ru (a + b) X := by
  unfold ru
  simp only [yN]
def Fa (e : ae) : Prop := (e.2.2.1 = 1 ∨ e.2.2.1 = 2 ∨ e.2.2.1 = 3) ∧ (e.2.2.1 = 2 → e.2.2.2.2 = 0)
open Go.RowKit in
theorem sd : ∀ (L : List ae) (b : Int) (X : fe), (∀ e ∈ L, Fa e) →
    ru b (ev L X) = (if (bh false b L).1 = 3 then ru (bh false b L).2.2 X else (true, (bh false b L).2.1, wrap64 (bh false b L).2.2)) ∧ ((bh false b L).1 = 1 ∨ ((bh false b L).1 = 3 ∧ (bh false b L).2.1 = ⟨#[]⟩))
  | [], b, X, _ => by simp [bh, ev]
  | e :: R, b, X, h => by
    obtain ⟨hk, h0⟩ := h e FV
    have e1 : ev (e :: R) X = AK (ev R X) e := rfl
    rw [e1]
    rcases hk with hk | hk | hk
    · have d : bh false b (e :: R) = (1, e.2.2.2.1, b + e.2.2.2.2) := by simp [bh, hk]
      rw [d, EU _ hk]
      simp only [ru]
      rw [if_neg (by omega), Int.add_comm]
      exact ⟨rfl, .inl trivial⟩
    · have d : bh false b (e :: R) = (1, ⟨#[]⟩, b + e.2.2.2.2) := by simp [bh, hk]
      rw [d, ET _ hk, h0 hk]
      simp only [ru]
      rw [if_neg (by omega), Int.add_comm]
      exact ⟨rfl, .inl trivial⟩
    · have d : bh false b (e :: R) = bh false (b + e.2.2.2.2) R := by
        conv => lhs; unfold bh
        rw [if_neg (by omega), if_neg (by omega)]
      rw [d, ES _ hk, add_add]
      exact sd R (b + e.2.2.2.2) X (fun x hx => h x (FY _ hx))
theorem DJ (b : Bool) : ∀ (c : List ae) (x : ae), x ∈ mF b c → ∃ y ∈ c, x.1 = y.1 ∧ x.2.1 = y.2.1
  | [], x, h => by cases h
  | e :: R, x, h => by
    have h' : x ∈ d4 b e.1 e.2.1 (e :: R) := h
    unfold d4 at h'
    by_cases h1 : dY (bh true 0 (e :: R)).2.2 = true
    · rw [if_pos h1] at h'
      by_cases h2 : b = true ∧ (bh true 0 (e :: R)).1 = 2
      · rw [if_pos h2] at h'; cases h'
      · rw [if_neg h2] at h'
        have := FL.1 h'
        rw [this]
        exact ⟨e, FV, rfl, rfl⟩
    · rw [if_neg h1] at h'
      exact ⟨x, h', rfl, rfl⟩
/-! The classes of a key. -/
/-! All keys. -/
/-! One class and its one entry. -/
theorem zP : ∀ (L : List ae) (b : Int), (∀ e ∈ L, Fa e) → (bh false b L).1 = 1 ∨ ((bh false b L).1 = 3 ∧ (bh false b L).2.1 = ⟨#[]⟩) := fun L b h => (sd L b En h).2
theorem xu (e : ae) (R : List ae) (h : ∀ x ∈ e :: R, Fa x) : (bh true 0 (e :: R)).1 = 1 ∨ ((bh true 0 (e :: R)).1 = 2 ∧ (bh true 0 (e :: R)).2.1 = ⟨#[]⟩ ∧ (bh true 0 (e :: R)).2.2 = 0) ∨ ((bh true 0 (e :: R)).1 = 3 ∧ (bh true 0 (e :: R)).2.1 = ⟨#[]⟩) := by
  obtain ⟨hk, h0⟩ := h e FV
  rcases hk with hk | hk | hk
  · have b : bh true 0 (e :: R) = (1, e.2.2.2.1, 0 + e.2.2.2.2) := by simp [bh, hk]
    rw [b]; exact .inl rfl
  · have b : bh true 0 (e :: R) = (2, ⟨#[]⟩, 0 + e.2.2.2.2) := by simp [bh, hk]
    rw [b, h0 hk]; exact .inr (.inl ⟨rfl, rfl, rfl⟩)
  · have b : bh true 0 (e :: R) = bh false (0 + e.2.2.2.2) R := by
      conv => lhs; unfold bh
      rw [if_neg (by omega), if_neg (by omega)]
    rw [b]
    rcases zP R (0 + e.2.2.2.2) (fun x hx => h x (FY _ hx)) with h1 | h1
    · exact .inl h1
    · exact .inr (.inr h1)
/-! The classes of a key. -/
/-! All keys. -/
theorem vc : ∀ (L : List ae) (f : Bool) (b : Int), (∀ e ∈ L, e.2.2.2.1.size ≤ 60) → (bh f b L).2.1.size ≤ 60 := by
  intro L
  induction L with
  | nil => intro f b _; exact FB _
  | cons e R d =>
    intro f b h
    unfold bh
    split
    · exact h e (FV ..)
    · split
      · exact FB _
      · exact d false _ (fun x hx => h x (FY _ hx))
def xL (e : ae) : Bool := dm e.1 e.2.1 e.2.2.1 e.2.2.2.1 e.2.2.2.2
theorem yw {e: ae} (h : xL e = true) : Fa e ∧ e.2.2.2.1.size ≤ 60 := by
  unfold xL dm at h
  simp only [FJ, decide_eq_true_eq] at h
  obtain ⟨_, _, _, _, _, h5, h6⟩ := h
  refine ⟨⟨?_, ?_⟩, h5⟩
  · by_cases d : e.2.2.1 = 1
    · exact .inl d
    · by_cases b : e.2.2.1 = 2
      · exact .inr (.inl b)
      · by_cases f : e.2.2.1 = 3
        · exact .inr (.inr f)
        · rw [oX d b f] at h6; cases h6
  · intro b
    rw [b, iB] at h6
    simp only [FJ, decide_eq_true_eq] at h6
    exact h6.2
theorem EA (b : Bool) : ∀ c : List ae, (∀ e ∈ c, xL e = true) → ∀ x ∈ mF b c, xL x = true
  | [], _, x, hx => by cases hx
  | e :: R, h, x, hx => by
    by_cases hs : dY (bh true 0 (e :: R)).2.2 = true
    · have g := h e FV
      have o := vc (e :: R) true 0 (fun y hy => (yw (h y hy)).2)
      have hf := xu e R (fun y hy => (yw (h y hy)).1)
      have f : x ∈ d4 b e.1 e.2.1 (e :: R) := hx
      unfold d4 at f
      rw [if_pos hs] at f
      obtain ⟨d, t, s, u⟩ : ∃ d t s, bh true 0 (e :: R) = (d, t, s) := ⟨_, _, _, rfl⟩
      rw [u] at hs hf o f
      simp only at hs hf o f
      by_cases h2 : b = true ∧ d = 2
      · rw [if_pos h2] at f; cases f
      · rw [if_neg h2] at f
        have m := FL.1 f
        rw [m]
        unfold xL dm at g ⊢
        simp only [FJ, decide_eq_true_eq, dY] at g hs ⊢
        obtain ⟨a1, a2, a3, _⟩ := g
        refine ⟨a1, a2, a3, hs.1, hs.2, o, ?_⟩
        by_cases h3 : b = true ∧ d = 3
        · rw [if_pos h3]; exact oV
        · rw [if_neg h3]
          rcases hf with rfl | ⟨rfl, rfl, rfl⟩ | ⟨rfl, rfl⟩
          · exact oV
          · rw [iB]; rfl
          · rw [mo]; rfl
    · have f : x ∈ d4 b e.1 e.2.1 (e :: R) := hx
      unfold d4 at f
      rw [if_neg hs] at f
      exact h x f
theorem pm (p : ae → Prop) (S : List Int) (d : Bool) {L : List ae} (o : ∀ b c, (∀ e ∈ c, e ∈ L) → c.length ≤ L.length → ∀ x ∈ mF b c, p x) : ∀ x ∈ bU L S d, p x := by
  unfold bU
  by_cases hr : aJ L = true
  · rw [if_pos hr]
    intro x hx
    obtain ⟨G, hG, s⟩ := He.1 hx
    have key : ∀ g : List (List ae), (∀ c ∈ g, (∀ e ∈ c, e ∈ L) ∧ c.length ≤ L.length) → ∀ e ∈ (g.foldr (Sq.stepD mF) (d, [])).2, p e := by
      intro g
      induction g with
      | nil => intro _ e f; cases f
      | cons c g y =>
        intro h e f
        have m := y (fun x hx => h x (FY _ hx))
        rw [List.foldr_cons] at f
        generalize g.foldr (Sq.stepD mF) (d, []) = u at m f
        have t : e ∈ mF u.1 c ++ u.2 := f
        rcases FI.1 t with h1 | h1
        · exact o _ c (h c FV).1 (h c FV).2 e h1
        · exact m e h1
    exact key _ (fun c hc => ⟨fun e f => (iM _ _ G hG).2 e ((iM _ _ c hc).2 e f), FK (iM _ _ c hc).1 (iM _ _ G hG).1⟩) x s
  · rw [if_neg hr]; intro x hx; cases hx
theorem ul (h : ∀ e ∈ L, xL e = true) (S : List Int) (d : Bool) : ∀ x ∈ bU L S d, xL x = true :=
  pm _ S d (fun b c hc _ => EA b c (fun e f => h e (hc e f)))
/-! Keys and times of what is left. -/
def kq (e : ae) : ByteArray × Int := (e.1, e.2.1)
theorem Ez (b : Bool) : ∀ c : List ae, ((mF b c).map kq).Sublist (c.map kq)
  | [] => G3 _
  | e :: R => by
    show ((d4 b e.1 e.2.1 (e :: R)).map kq).Sublist _
    unfold d4
    by_cases h1 : dY (bh true 0 (e :: R)).2.2 = true
    · rw [if_pos h1]
      by_cases h2 : b = true ∧ (bh true 0 (e :: R)).1 = 2
      · rw [if_pos h2]; exact List.nil_sublist _
      · rw [if_neg h2]
        simp only [Gx, GO, kq]
        exact List.Sublist.cons_cons _ (List.nil_sublist _)
    · rw [if_neg h1]; exact G3 _
theorem u7 (b : Bool) : ∀ d : List (List ae), ((d.foldr (Sq.stepD mF) (b, [])).2.map kq).Sublist (d.flatten.map kq)
  | [] => G3 _
  | c :: d => by
    have f := u7 b d
    rw [List.foldr_cons, GA, GM]
    generalize d.foldr (Sq.stepD mF) (b, []) = e at f ⊢
    show ((mF e.1 c ++ e.2).map kq).Sublist _
    rw [GM]
    exact Hl (Ez _ c) f
theorem ql (S : List Int) (b : Bool) : ∀ d : List (List ae), ((d.flatMap (eZ S b)).map kq).Sublist (d.flatten.map kq)
  | [] => G3 _
  | G :: d => by
    have e := ql S b d
    have h := u7 b (Sq.parts (gV S) G)
    rw [Sq.parts_flat] at h
    rw [Hr, GA, GM, GM]
    exact Hl h e
theorem uk (h : L.Pairwise (fun a b => bI a.1 a.2.1 b.1 b.2.1 = true)) (S : List Int) (d : Bool) : (bU L S d).Pairwise (fun a b => bI a.1 a.2.1 b.1 b.2.1 = true) := by
  unfold bU
  by_cases hr : aJ L = true
  · rw [if_pos hr]
    have hs := ql S d (Sq.parts fp L)
    rw [Sq.parts_flat] at hs
    have h1 : (L.map kq).Pairwise (fun a b => bI a.1 a.2 b.1 b.2 = true) := List.pairwise_map.2 h
    exact List.pairwise_map.1 (h1.sublist hs)
  · rw [if_neg hr]; exact List.Pairwise.nil
theorem zv (hl : L.length = n) (h1 : ∀ e ∈ L, dm e.1 e.2.1 e.2.2.1 e.2.2.2.1 e.2.2.2.2 = true) (h2 : ∀ j, 1 ≤ j → j < n → ∀ x y, L[j - 1]? = some x → L[j]? = some y → bI x.1 x.2.1 y.1 y.2.1 = true) : aJ L = true := by
  refine mc (k := n) (fun j f => ?_) (by omega)
  have b : j < L.length := by omega
  have d := j' b
  match j, f, b, d with
  | 0, _, b, d => rw [kJ d]; exact h1 _ (F8 b)
  | j + 1, f, b, d =>
    have hd := j' (l := L) (i := j) (by omega)
    rw [iO d hd, h1 _ (F8 b), h2 (j + 1) (by omega) f _ _ (show L[j + 1 - 1]? = _ from hd) d]
    rfl
theorem jd (hr : aJ L = true) (S : List Int) (b : Bool) : aJ (bU L S b) = true := by
  have hp := uk (wF hr) S b
  refine zv rfl (ul (fun e g => by obtain ⟨j, d⟩ := F' g; exact d9 hr d) S b) (fun j h1 h2 x y hx hy => ?_)
  obtain ⟨hi, m⟩ := E'.1 hx
  obtain ⟨d, f⟩ := E'.1 hy
  have := (F2.1 hp) (j - 1) j hi d (by omega)
  rw [m, f] at this
  exact this
structure cT (w:World) (base:Nat) (a:Option Addr) (n c:Nat) (L:List ae):Prop where
 nil:a=none→n=0∧c=0∧L=[]
 own:∀x,a=some x→∃g,x=⟨g,0,none⟩∧ag w base g n c L
theorem cT.some {g c:Nat} (h:ag w base g n c L):cT w base (pT g) n c L:=⟨(fun e=>by cases e),(fun x e=>by cases e;exact ⟨g,rfl,h⟩)⟩
theorem cT.none (w:World) (base:Nat):cT w base none 0 0 []:=⟨fun _=>⟨rfl,rfl,rfl⟩,fun x e=>by cases e⟩
theorem cT.len {a:Option Addr} {c:Nat} (h:cT w base a n c L):L.length=n:=by
 cases a with
 | none=>obtain ⟨h1,_,h3⟩:=h.nil rfl;rw [h1,h3];rfl
 | some x=>obtain ⟨g,_,h2⟩:=h.own x rfl;exact h2.len
theorem cT.entsAt {a:Option Addr} {c:Nat} (h:cT w base a n c L):ah w a n c L:=by
 cases a with
 | none =>
  obtain ⟨h1,h2,h3⟩:=h.nil rfl;subst h1 h2 h3;exact ⟨rfl,Fv _,FB _,by simp,fun _=>rfl,(fun x e=>by cases e),(fun x e=>by cases e)⟩
 | some x=>obtain ⟨g,rfl,h2⟩:=h.own x rfl;exact h2.entsAt
theorem cT.lt {a:Option Addr} {c:Nat} (h:cT w base a n c L):∀x,a=.some x→base≤x.block∧x.block<w.heap.size:=fun x e=>by
 obtain ⟨g,rfl,h2⟩:=h.own x e
 exact h2.lt
theorem cT.grown {a:Option Addr} {c:Nat} {row:Option Nat} (h:cT w base a n c L) (hg:w.grownBy w' row) (b:∀x,a=.some x→.some x.block≠row):cT w' base a n c L :=
 ⟨h.nil,fun x e=>by obtain ⟨g,rfl,h2⟩:=h.own x e;exact ⟨g,rfl,h2.grown hg (b _ e)⟩⟩
theorem cT.mono {base':Nat} {a:Option Addr} {c:Nat} (h:cT w base a n c L) (hb:base'≤base):cT w base' a n c L :=
 ⟨h.nil,fun x e=>by obtain ⟨g,rfl,h2⟩:=h.own x e;exact ⟨g,rfl,h2.mono hb⟩⟩
theorem qh (hb:Bl w w'):w.grownBy w' none:=⟨hb.os,hb.tape,hb.output,hb.size,fun k hk _=>hb.block k hk⟩
theorem cT.below {a:Option Addr} {c:Nat} (h:cT w base a n c L) (hb:Bl w w'):cT w' base a n c L:=h.grown (qh hb) (fun x _ e=>by cases e)
theorem AA (w:World) (T:TypeId) (s t:ByteArray) (q d n:Int):∀j u,(aX (s,q,d,t,n))[j]?=some u→(w.alloc (.cells #[.string s,iT q,iT d,.string t,iT n] T)).cell? ((⟨w.heap.size,0,none⟩:Addr).add j)=some u:=by
 intro j u b;rw [FO];match j,b with
 | 0,b=>simp [aX] at b;subst b;simp
 | 1,b=>simp [aX] at b;subst b;simp
 | 2,b=>simp [aX] at b;subst b;simp
 | 3,b=>simp [aX] at b;subst b;simp
 | 4,b=>simp [aX] at b;subst b;simp
 | j+5,b=>simp [aX] at b
theorem x9 {W:World} {b b' e x s E A:Nat} {v t:Value} {xs m:List Value} (h:W.ownsRow b e s v n xs) (h':W.ownsRow b' x E t A m) (o:e≠x) {k:Nat} (hk:v.ownBlock=some k):t.ownBlock≠some k:=fun f=>by
 rcases h.2 with ⟨rfl,_⟩ | ⟨g,D,B,rfl,_,hg,_⟩
 · cases hk
 · cases hk
   rcases h'.2 with ⟨rfl,_⟩ | ⟨F,y,u,rfl,_,d,_⟩
   · cases f
   · cases f
     rw [hg] at d
     cases d
     exact o rfl
theorem gK (hs:tU M) (d:∀e ∈ M,dm e.1 e.2.1 e.2.2.1 e.2.2.2.1 e.2.2.2.2=true):aJ M=true:=by
 refine mc (k:=M.length) ?_ (Fv _);intro j b;have hg:M[j]?=some M[j]:=j' b;match j,b,hg with
 | 0,b,hg=>rw [kJ hg];exact d _ (F8 b)
 | i+1,b,hg =>
  have hi:M[i]?=some (M[i]'(by omega)):=j' (by omega);rw [iO hg hi,d _ (F8 b)];exact (F2.1 hs) i (i+1) (by omega) b (by omega)
theorem tC {a b:ae} (h:aW b a=false) (hd:¬(a.1=b.1∧a.2.1=b.2.1)):aW a b=true:=by
 have h1:=r9 a.1 b.1 a.2.1 b.2.1;unfold aW at h ⊢;rw [h,Bool.or_false] at h1;rw [h1];by_cases e:a.1=b.1
 · have:¬a.2.1=b.2.1:=fun e2=>hd ⟨e,e2⟩
   simp [this]
 · simp [e]
def fS (L:List ae):Prop:=L.Pairwise (fun a b=>¬(a.1=b.1∧a.2.1=b.2.1))
theorem iu {A B:List ae} (h:fS A) (p:A.Perm B):fS B :=
 (List.Perm.pairwise_iff (fun {_ _} h e=>h ⟨e.1.symm,e.2.symm⟩) p).1 h
theorem tc (h:aJ L=true):fS L:=by
 refine (gS h).imp ?_;rintro a b d ⟨e1,e2⟩;unfold aW at d;rw [e1,e2,ii] at d;cases d
theorem mK (hw:mC M) (d:fS M):tU M:=by
 refine (List.Pairwise.and hw d).imp ?_;rintro a b ⟨h1,h2⟩;exact tC h1 h2
theorem nW {F G:List ae} (u:fS F) (p:F.Perm G):bD F=bD G :=
 jG (mK (bO F).1 (iu u (bO F).2.symm)) (bO G).1 ((bO F).2.trans (p.trans (bO G).2.symm))
def iP (T:List aj):ByteArray:=match T[0]? with | some r=>fG (bn r.1) T | none=>⟨#[]⟩
def fC (T:List aj):ByteArray:=match T[0]? with | some r=>dw (aU r.1) T | none=>⟨#[]⟩
def Dz (T N:List aj):List aj:=N.filter (eD (iP T) (fC T))
def offR (T N:List aj):List aj:=N.filter (fun r=>!eD (iP T) (fC T) r)
def dQ (T N:List aj):List aj:=T++Dz T N
def ln (T N C:List aj) (nx:Int):Bool:=decide (nx=2) || decide ((C.filter (eD (iP (dQ T N)) (fC (dQ T N)))).length=0)
def um (T N C:List aj) (S:List Int) (nx:Int):List ae:=bU (bD (bG (dQ T N)).flatten) S (ln T N C nx)
def dM (L:List ae):List aj:=(fl L L.length).1
def dX (T N C:List aj) (S:List Int) (nx:Int):List aj:=dJ (offR T N) (dM (um T N C S nx))
def wT (T N C:List aj) (S:List Int) (nx:Int):Bool:=ik (dX T N C S nx) && decide ((dX T N C S nx).length≤8)
theorem fA {a b:ByteArray} (h:Op.bytesLess a.toList b.toList=true):fH a b=true:=by unfold fH;rw [h];rfl
theorem eY (h:aJ L=true):mC L:=by
 have:=(bO L).1;rwa [jG (gS h) this (bO L).2.symm]
theorem jb (h:aJ L=true) (h1:1≤L.length):fH (bn L) (aU L)=true:=by
 obtain ⟨e,b,e1⟩:=lF h1;rw [e1];exact (eF (eY h) b).2
theorem yh {k1 k2:ByteArray} {i j:Nat} (h:f5 N k1 k2 i j) (b:fH k1 k2=true) (e:∀r ∈ N,aJ r.1=true∧1≤r.1.length):i≤j:=by
 apply Classical.byContradiction;intro hc;have f:j<N.length:=by have:=h.1;omega
 have hr:=j' f;obtain ⟨a,_,_,d⟩:=h.2.2 j _ hr;have a:=a (by omega);have d:=d (Fv _);have hn:=e _ (Fw hr);have h1:=cK (cK b (fA d)) (jb hn.1 hn.2);rw [dL,a] at h1;cases h1
theorem tp (h0:1≤T.length) (b:∀r ∈ T,aJ r.1=true∧1≤r.1.length):bn (bD (bG T).flatten)=iP T∧aU (bD (bG T).flatten)=fC T:=by
 have hr:=j' (l:=T) (i:=0) (by omega);have:=wJ (Fw hr) b rfl;unfold iP fC;rw [hr];exact this
theorem Ck (h0:1≤T.length) (b:∀r ∈ T,aJ r.1=true∧1≤r.1.length):1≤(bD (bG T).flatten).length:=by
 rw [kf];match T,h0,b with
 | r :: T,_,b =>
  have:=(b r (by simp)).2;simp [bG];omega
theorem ol (h0:1≤T.length) (b:∀r ∈ T,aJ r.1=true∧1≤r.1.length):fH (iP T) (fC T)=true:=by
 obtain ⟨h1,h2⟩:=tp h0 b;rw [← h1,← h2];obtain ⟨e,d,e1⟩:=lF (Ck h0 b);rw [e1];exact (eF (bO _).1 d).2
structure gJ (T N:List aj):Prop where
 t0:1≤T.length
 tok:∀r ∈ T,aJ r.1=true∧1≤r.1.length
 nok:∀r ∈ N,aJ r.1=true∧1≤r.1.length
 ap:bu N=true
 un:fS ((bG T).flatten++(bG N).flatten)
theorem lG (T N:List aj):(Dz T N).Sublist N:=List.filter_sublist
theorem mW (A B:List aj):(bG (A++B)).flatten=(bG A).flatten++(bG B).flatten:=by simp [bG]
theorem gJ.all (h:gJ T N):∀r ∈ dQ T N,aJ r.1=true∧1≤r.1.length:=fun r hr=>by
 rcases FI.1 hr with h1 | h1
 · exact h.tok r h1
 · exact h.nok r ((lG T N).subset h1)
theorem gJ.all0 (h:gJ T N):1≤(dQ T N).length:=by
 have:=h.t0;unfold dQ;rw [Fy];omega
theorem nu {A B:List (List ae)} (h:A.Sublist B):A.flatten.Sublist B.flatten:=by
 induction h with
 | slnil=>exact G3 _
 | cons a _ e=>rw [GA];exact e.trans (List.sublist_append_right _ _)
 | cons_cons a _ e=>rw [GA,GA];exact Hl (G3 _) e
theorem gJ.unAll (h:gJ T N):fS (bG (dQ T N)).flatten:=by
 unfold dQ;rw [mW];refine GH ?_ h.un;exact Hl (G3 _) (nu ((lG T N).map _))
theorem wZ (b:∀r ∈ T,aJ r.1=true∧1≤r.1.length):∀e ∈ (bG T).flatten,dm e.1 e.2.1 e.2.2.1 e.2.2.2.1 e.2.2.2.2=true:=fun e d=>by
 obtain ⟨L,hL,h1⟩:=GZ.1 d
 obtain ⟨r,hr,rfl⟩:=Gp.1 hL
 obtain ⟨j,f⟩:=F' h1
 exact d9 (b r hr).1 f
theorem gJ.right (h:gJ T N):aJ (bD (bG (dQ T N)).flatten)=true:=by
 obtain ⟨h1,h2⟩:=bO (bG (dQ T N)).flatten;exact gK (mK h1 (iu h.unAll h2.symm)) (fun e b=>wZ h.all e (h2.subset b))
theorem gJ.cut (h:gJ T N) {i j:Nat} (hm:f5 N (iP T) (fC T) i j):i≤j∧Dz T N=(N.drop i).take (j - i)∧offR T N=N.take i++N.drop j:=by
 have b:=yh hm (ol h.t0 h.tok) h.nok;exact ⟨b,oh hm b⟩
theorem gJ.merged (h:gJ T N) {i j:Nat} (hm:f5 N (iP T) (fC T) i j):bD (bG ((N.drop i).take (j - i))++[bD (bG T).flatten]).flatten=bD (bG (dQ T N)).flatten:=by
 refine (nW h.unAll ?_).symm;rw [← (h.cut hm).2.1];unfold dQ;rw [mW,GT];simp only [GA,List.flatten_nil,GR];exact List.perm_append_comm.trans (List.Perm.append_left _ (bO _).2.symm)
theorem gJ.bare (h:gJ T N) (hC:∀r ∈ C,aJ r.1=true∧1≤r.1.length) {i j:Nat} (hm:f5 C (iP (dQ T N)) (fC (dQ T N)) i j) (nx:Int):(decide (nx=2) || decide (i=j))=ln T N C nx:=by
 have b:=yh hm (ol h.all0 h.all) hC;have hf:=(oh hm b).1;unfold ln;rw [hf,FC,FN];have:=hm.1;have:=hm.2.1;congr 1
 rw [decide_eq_decide];omega
theorem mI (h:mC L) {a c:Nat} (b:a≤c) (hc:c<L.length):fH (iQ L a) (iQ L c)=true:=by
 rw [kM (j' (show a<L.length by omega)),kM (j' hc)];by_cases e:a=c
 · subst e;exact e9 _
 · exact pd ((F2.1 h) a c (by omega) hc (by omega))
theorem mU {a b:Nat} (d:a<b):bn (eO L a b).1=iQ L a:=by
 have h:(eO L a b).1[0]?=L[a]?:=by
  show ((L.drop a).take (b - a))[0]?=_
  rw [Ge (by omega),Gg,Gv]
 unfold bn iQ;rw [h];cases L[a]? <;> rfl
theorem rU {a b:Nat} (hb:b≤L.length):(eO L a b).1.length=b - a:=by
 show ((L.drop a).take (b - a)).length=_
 rw [FC,FN];omega
theorem lN (L:List ae):∀k,k≤L.length→(fl L k).2≤k∧(∀r ∈ (fl L k).1,∃a b,a<b∧b≤(fl L k).2∧r=eO L a b)∧(fl L k).1.Pairwise (fun r s=>∃a b c d,a<b∧b≤c∧c<d∧d≤L.length∧r=eO L a b∧s=eO L c d)
 | 0,_=>⟨Fv _,(fun r h=>by cases h),List.Pairwise.nil⟩
 | k+1,hk=>by
  obtain ⟨h1,h2,h3⟩:=lN L k (by omega)
  obtain ⟨B,f,hB⟩:∃B f,fl L k=(B,f):=⟨_,_,rfl⟩
  rw [hB] at h1 h2 h3
  simp only at h1 h2 h3
  cases hc:gP L f (k+1) with
  | false=>rw [tS hB hc];exact ⟨by omega,h2,h3⟩
  | true =>
   rw [qB hB hc]
   refine ⟨Fv _,fun r hr=>?_,?_⟩
   · rcases FI.1 hr with h | h
     · obtain ⟨a,b,x1,g,e⟩:=h2 r h
       exact ⟨a,b,x1,by show b≤k+1;omega,e⟩
     · rw [FL] at h
       exact ⟨f,k+1,by omega,Fv _,h⟩
   · rw [Gl]
     refine ⟨h3,Hg _ _,fun r hr s hs=>?_⟩
     rw [FL] at hs
     obtain ⟨a,b,x1,g,e⟩:=h2 r hr
     exact ⟨a,b,f,k+1,x1,g,by omega,hk,e,hs⟩
theorem tQ (h:r ∈ dM L):∃a b,a<b∧b≤L.length∧r=eO L a b:=by
 obtain ⟨h1,h2,_⟩:=lN L L.length (Fv _);obtain ⟨a,b,x1,e,d⟩:=h2 r h;exact ⟨a,b,x1,by omega,d⟩
theorem nH (h:r ∈ dM L):1≤r.1.length:=by
 obtain ⟨a,b,x1,d,rfl⟩:=tQ h;rw [rU d];omega
theorem tP (h:r ∈ dM L):∀e ∈ r.1,e ∈ L:=by
 obtain ⟨a,b,x1,f,rfl⟩:=tQ h;intro e d;exact Gf (F9 d)
theorem yE (h:r ∈ dM L):∃e ∈ L,bn r.1=e.1:=by
 obtain ⟨e,b,e1⟩:=lF (nH h);exact ⟨e,tP h e b,e1⟩
theorem Cu (hw:mC L):(dM L).Pairwise (fun a b=>nq (bn a.1) (bn b.1)=false):=by
 refine (lN L L.length (Fv _)).2.2.imp ?_;rintro r s ⟨a,b,c,d,h1,h2,h3,h4,rfl,rfl⟩;rw [mU h1,mU h3,tE];have:=mI hw (a:=a) (c:=c) (by omega) (by omega);rw [dL] at this;simpa using this
theorem vY {b:Bool} {e:ae} (h:e ∈ bU L S b):∃x ∈ L,x.1=e.1:=by
 unfold bU at h;split at h
 · have hs:=ql S b (Sq.parts fp L);rw [Sq.parts_flat] at hs;obtain ⟨x,hx,e1⟩:=Gp.1 (hs.subset (Gp.2 ⟨e,h,rfl⟩));exact ⟨x,hx,congrArg (fun p:ByteArray × Int=>p.1) e1⟩
 · cases h
theorem fc {N:List aj} (h:bu N=true) (f:∀r ∈ N,aJ r.1=true∧1≤r.1.length):∀d a,a+(d+1)<N.length→∀x y,N[a]?=some x→N[a+(d+1)]?=some y→Op.bytesLess (aU x.1).toList (bn y.1).toList=true
 | 0,a,hl,x,y,hx,hy=>by
  have h1:=(FZ.1 h) (a+1) (Gh.2 (by omega))
  rw [k9 hy (by omega) (by simpa using hx)] at h1
  exact h1
 | d+1,a,hl,x,y,hx,hy=>by
  have hz:=j' (l:=N) (i:=a+(d+1)) (by omega)
  have m:=fc h f d a (by omega) x _ hx hz
  have h1:=(FZ.1 h) (a+(d+1+1)) (Gh.2 (by omega))
  rw [k9 hy (by omega) (by rw [show a+(d+1+1) - 1=a+(d+1) by omega];exact hz)] at h1
  have e:=f _ (Fw hz)
  have b:=jb e.1 e.2
  have e1:fH (aU x.1) (bn y.1)=true:=cK (cK (fA m) b) (fA h1)
  cases hg:Op.bytesLess (aU x.1).toList (bn y.1).toList with
  | true=>rfl
  | false =>
   have e2:fH (bn y.1) (aU x.1)=true:=by rw [dL,hg];rfl
   have e3:=cK e2 (cK (fA m) b)
   rw [dL] at e3
   have g:Op.bytesLess (aU (N[a+(d+1)]'(by omega)).1).toList (bn y.1).toList=true:=h1
   rw [g] at e3
   cases e3
theorem ig {a b c:ByteArray} (h1:fH a b=true) (h2:Op.bytesLess b.toList c.toList=true):Op.bytesLess a.toList c.toList=true:=by
 cases hg:Op.bytesLess a.toList c.toList with
 | true=>rfl
 | false =>
  have e2:fH c a=true:=by rw [dL,hg];rfl
  have e3:=cK e2 h1;rw [dL,h2] at e3;cases e3
theorem te {b:Int} {e:ae} (h:e ∈ um T N C S b):∃r ∈ dQ T N,∃x ∈ r.1,x.1=e.1:=by
 obtain ⟨x,hx,e1⟩:=vY h;have hx:=(bO _).2.subset hx;obtain ⟨L,hL,h1⟩:=GZ.1 hx;obtain ⟨r,hr,rfl⟩:=Gp.1 hL;exact ⟨r,hr,x,h1,e1⟩
theorem gJ.runs (h:gJ T N) (C:List aj) (S:List Int) (H:Int) {i j:Nat} (hm:f5 N (iP T) (fC T) i j):dX T N C S H=N.take i++dM (um T N C S H)++N.drop j:=by
 obtain ⟨R,F,A⟩:=h.cut hm;have s:=tp h.t0 h.tok;have hw:mC (um T N C S H):=eY (jd h.right S _);have J:∀r ∈ T,∀x ∈ r.1,fH (iP T) x.1=true∧fH x.1 (fC T)=true:=fun r hr x hx=>by
  have:=eF (bO (bG T).flatten).1 (e:=x) ((bO _).2.symm.subset (GZ.2 ⟨r.1,Gp.2 ⟨r,hr,rfl⟩,hx⟩));rwa [s.1,s.2] at this
 have K:∀r ∈ Dz T N,∃t,i≤t∧t<j∧N[t]?=some r:=fun r hr=>by
  rw [F] at hr;obtain ⟨t,E⟩:=F' hr;have hl:=(E'.1 E).1;rw [FC,FN] at hl;rw [Ge (by omega),Gg] at E;exact ⟨i+t,by omega,by omega,E⟩
 unfold dX;rw [A];refine pG _ _ _ (fun r hr z hz=>?_) (fun x hx r hr=>?_) (Cu hw)
 · obtain ⟨e,I,e1⟩:=yE hr;obtain ⟨m,o,x,hx,e2⟩:=te I;rw [tE,e1,← e2];obtain ⟨u,b⟩:=F' hz;rw [Gg] at b;have D:=(E'.1 b).1;rcases FI.1 o with h1 | h1
   · exact ig (J m h1 x hx).2 ((hm.2.2 _ _ b).2.2.2 (by omega))
   · obtain ⟨t,Q,O,t3⟩:=K m h1;have g:=h.nok _ (Fw t3);have:=fc h.ap h.nok (j+u - t - 1) t (by omega) m z t3 (by rw [show t+(j+u - t - 1+1)=j+u by omega];exact b);exact ig (eF (eY g.1) hx).2 this
 · obtain ⟨e,I,e1⟩:=yE hr;obtain ⟨m,o,y,hy,e2⟩:=te I;obtain ⟨u,b⟩:=F' (List.mem_of_getLast? hx);have D:=(E'.1 b).1;rw [FC] at D;rw [Ge (by omega)] at b;have d:=h.nok _ (Fw b);have B:=jb d.1 d.2;have f:fH (bn x.1) y.1=true:=by
    rcases FI.1 o with h1 | h1
    · exact cK (cK B (fA ((hm.2.2 _ _ b).1 (by omega)))) (J m h1 y hy).1
    · obtain ⟨t,Q,O,t3⟩:=K m h1;have g:=h.nok _ (Fw t3);have U:=(E'.1 t3).1;have:=fc h.ap h.nok (t - u - 1) u (by omega) x m b (by rw [show u+(t - u - 1+1)=t by omega];exact t3);exact cK (cK B (fA this)) (eF (eY g.1) hy).1
   rw [tE,e1,← e2];rw [dL] at f;simpa using f
theorem gJ.fits (h:gJ T N) (d:∀r ∈ N,r.1.length≤150) (C:List aj) (S:List Int) (b:Int) {i j:Nat} (hm:f5 N (iP T) (fC T) i j):ik (dX T N C S b)=ik (dM (um T N C S b)):=by
 rw [h.runs C S b hm];unfold ik;rw [List.all_append,List.all_append];have h1:(N.take i).all (fun r=>decide (r.1.length≤150))=true:=FZ.2 fun r hr=>decide_eq_true (d r (F9 hr))
 have h2:(N.drop j).all (fun r=>decide (r.1.length≤150))=true:=FZ.2 fun r hr=>decide_eq_true (d r (Gf hr))
 rw [h1,h2];simp
end Go.Proofs.YtpobkmjicbobdaaGreat
