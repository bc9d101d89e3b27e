/- Walks. -/
import Derived.Sort.Defs
import Derived.Test.YtpobkmjicbobdaaGreatBD07
import Derived.Test.YtpobkmjicbobdaaGreatBD06
namespace Go.Proofs.YtpobkmjicbobdaaGreat
set_option maxRecDepth 100000
set_option maxHeartbeats 40000000
open Go.RowKit
variable {b:Bool} {n n':Int} {t t':ByteArray}
section
attribute [local go_sem] Hc
def iD (c:fp):Value:=.agg #[.bool c.1,.string c.2.1,iT c.2.2]
def gV (b:Bool) (t:ByteArray) (n:Int) (d:Int) (t':ByteArray) (n':Int):fp :=
 if d=1 then (true,t',n') else if d=2 then (false,⟨#[]⟩,0) else if d=3 then (true,t,wrap64 (n+n')) else (b,t,n)
theorem ED:gV b t n 1 t' n'=(true,t',n'):=by simp [gV]
theorem EC:gV b t n 2 t' n'=(false,⟨#[]⟩,0):=by simp [gV]
theorem EB:gV b t n 3 t' n'=(true,t,wrap64 (n+n')):=by simp [gV]
theorem EE {d:Int} (h1:¬d=1) (h2:¬d=2) (h3:¬d=3):gV b t n d t' n'=(b,t,n):=by simp [gV,h1,h2,h3]
theorem yD (b:Bool) (t k t':ByteArray) (n q d n':Int) (w:World) :
 Calls Tryz.prog 311 #[.agg #[],.agg #[.bool b,.string t,iT n],.agg #[.string k,iT q,iT d,.string t',iT n']] w fun e w'=>e=.returned (iD (true,t',n'))∧Bl w w':=by
 go_enter Tryz.func311,Tryz.ntmps311
 go_wp2;refine bodyPost_ret (v:=.agg #[.bool true,.string t',iT n']) (by simp [results,Tryz.results311,go_sem]) rfl ⟨rfl,?_⟩;exact (((bZ.alloc (by simp) _).alloc (by simp;omega) _).alloc (by simp;omega) _)
theorem yE (b:Bool) (t k t':ByteArray) (n q d n':Int) (w:World) :
 Calls Tryz.prog 313 #[.agg #[],.agg #[.bool b,.string t,iT n],.agg #[.string k,iT q,iT d,.string t',iT n']] w fun e w'=>e=.returned (iD (false,⟨#[]⟩,0))∧Bl w w':=by
 go_enter Tryz.func313,Tryz.ntmps313
 go_wp2;refine bodyPost_ret (v:=.agg #[.bool false,.string ⟨#[]⟩,iT 0]) (by simp [results,Tryz.results313,go_sem]) rfl ⟨rfl,?_⟩;exact (((bZ.alloc (by simp) _).alloc (by simp;omega) _).alloc (by simp;omega) _)
theorem yF (b:Bool) (t k t':ByteArray) (n q d n':Int) (w:World) :
 Calls Tryz.prog 315 #[.agg #[],.agg #[.bool b,.string t,iT n],.agg #[.string k,iT q,iT d,.string t',iT n']] w fun e w'=>e=.returned (iD (true,t,wrap64 (n+n')))∧Bl w w':=by
 go_enter Tryz.func315,Tryz.ntmps315
 go_wp2;refine bodyPost_ret (v:=.agg #[.bool true,.string t,iT (wrap64 (n+n'))]) (by simp [results,Tryz.results315,go_sem]) rfl ⟨rfl,?_⟩;exact (((bZ.alloc (by simp) _).alloc (by simp;omega) _).alloc (by simp;omega) _)
theorem A4 (b:Bool) (t k t':ByteArray) (n q d n':Int) (w:World) :
 Calls Tryz.prog 317 #[.agg #[],.agg #[.bool b,.string t,iT n],.agg #[.string k,iT q,iT d,.string t',iT n']] w fun e w'=>e=.returned (iD (b,t,n))∧Bl w w':=by
 go_enter Tryz.func317,Tryz.ntmps317
 go_wp2;refine bodyPost_ret (v:=.agg #[.bool b,.string t,iT n]) (by simp [results,Tryz.results317,go_sem]) rfl ⟨rfl,?_⟩;exact (((bZ.alloc (by simp) _).alloc (by simp;omega) _).alloc (by simp;omega) _)
end
end Go.Proofs.YtpobkmjicbobdaaGreat
namespace Go.Proofs.YtpobkmjicbobdaaGreat
open Go.RowKit
def kU (L : List ac) (q : Int) : Nat → Nat
  | 0 => 0
  | k + 1 => match L[k]? with
    | none => k + 1
    | some x => if q < x.2.1 then kU L q k else k + 1
theorem xI (L : List ac) (q : Int) : ∀ k, kU L q k ≤ k
  | 0 => Gg _
  | k + 1 => by
    have d := xI L q k
    unfold kU
    split
    · exact Gg _
    · split <;> omega
def fw (L : List ac) (e : ac) : List ac := L.take (kU L e.2.1 L.length) ++ ([e] ++ L.drop (kU L e.2.1 L.length))
def bK (L : List ac) : List ac := L.foldl fw []
theorem Cc (L : List ac) (e : ac) : (fw L e).length = L.length + 1 := by
  have := xI L e.2.1 L.length
  simp [fw]
  omega
theorem AQ (L : List ac) : ∀ A : List ac, (L.foldl fw A).length = A.length + L.length := by
  induction L with
  | nil => intro A; simp
  | cons e r d => intro A; rw [List.foldl_cons, d, Cc, GR]; omega
theorem eX (L : List ac) : (bK L).length = L.length := by
  have := AQ L []
  simpa [bK] using this
theorem og (L : List ac) (e : ac) : bK (L ++ [e]) = fw (bK L) e := by simp [bK]
theorem A5 {L : List ac} {k : Nat} {e : ac} (h : L[k]? = some e) : bK (L.take (k + 1)) = fw (bK (L.take k)) e := by
  rw [GH, h]
  exact og _ _
theorem Af (L : List ac) (e : ac) : (fw L e).Perm (e :: L) := by
  unfold fw
  refine (List.perm_append_comm_assoc _ _ _).trans ?_
  simp
theorem tx (L : List ac) : (bK L).Perm L := by
  have key : ∀ (L A : List ac), (L.foldl fw A).Perm (A ++ L) := by
    intro L
    induction L with
    | nil => intro A; simp
    | cons e r d =>
      intro A
      rw [List.foldl_cons]
      refine (d _).trans ?_
      refine ((Af A e).append_right r).trans ?_
      simp only [GY]
      exact List.perm_middle.symm
  have := key L []
  simpa [bK] using this
theorem DB {L : List ac} {e : ac} : e ∈ bK L ↔ e ∈ L := (tx L).mem_iff
/-! The insertion sort that the library runs is this one. -/
open Go.Sort in
theorem D5 (P R : List ac) (a b : ac) : Sort.swp (P ++ a :: b :: R).toArray (P.length + 1) P.length = (P ++ b :: a :: R).toArray := by
  unfold Sort.swp
  apply Array.ext'
  simp
def xS (x y : ac) : Bool := decide (x.2.1 < y.2.1)
theorem sX (A B : List ac) (e : ac) : ∀ j, j ≤ A.length → Sort.insInner xS 0 j (A.take j ++ e :: (A.drop j ++ B)).toArray = (A.take (kU A e.2.1 j) ++ e :: (A.drop (kU A e.2.1 j) ++ B)).toArray
  | 0, _ => by simp [Sort.insInner, kU]
  | j + 1, o => by
    have d : j < A.length := o
    obtain ⟨a, ha⟩ : ∃ a, A[j]? = some a := ⟨_, j' d⟩
    have f : A[j] = a := by rw [j' d] at ha; exact Gi ha
    have h1 : A.take (j + 1) = A.take j ++ [a] := by rw [GH, ha]; rfl
    have hl : (A.take j).length = j := by simp; omega
    have g : A.take (j + 1) ++ e :: (A.drop (j + 1) ++ B) = A.take j ++ a :: e :: (A.drop (j + 1) ++ B) := by rw [h1]; simp
    have hd : A.drop j = a :: A.drop (j + 1) := by rw [← f]; exact He d
    have m : ((A.take j ++ a :: e :: (A.drop (j + 1) ++ B)).toArray)[j + 1]! = e := by
      have : (A.take j ++ a :: e :: (A.drop (j + 1) ++ B))[j + 1]? = some e := by
        rw [Gm (by omega), hl]
        simp
      simp [this]
    have u : ((A.take j ++ a :: e :: (A.drop (j + 1) ++ B)).toArray)[j]! = a := by
      have : (A.take j ++ a :: e :: (A.drop (j + 1) ++ B))[j]? = some a := by
        rw [Gm (by omega), hl]
        simp
      simp [this]
    have s := sX A B e j (by omega)
    rw [g, Sort.insInner, m, u]
    have hp : kU A e.2.1 (j + 1) = if e.2.1 < a.2.1 then kU A e.2.1 j else j + 1 := by
      rw [kU, ha]
    by_cases hc : e.2.1 < a.2.1
    · have hs : Sort.swp (A.take j ++ a :: e :: (A.drop (j + 1) ++ B)).toArray (j + 1) j = (A.take j ++ e :: (A.drop j ++ B)).toArray := by
        have := D5 (A.take j) (A.drop (j + 1) ++ B) a e
        rw [hl] at this
        rw [this, hd]
        simp
      rw [hp, if_pos hc, hs]
      simp only [xS, hc]
      simpa using s
    · rw [hp, if_neg hc]
      simp [xS, hc, g]
theorem El (A B : List ac) (e : ac) : Sort.insInner xS 0 A.length (A ++ e :: B).toArray = (fw A e ++ B).toArray := by
  have := sX A B e A.length (Gg _)
  simp only [List.take_length, List.drop_length, GU] at this
  rw [this]
  simp [fw]
/-! What a key has. -/
def Dy (c : fp) (e : ac) : fp := gV c.1 c.2.1 c.2.2 e.2.2.1 e.2.2.2.1 e.2.2.2.2
def oX (L : List ac) : fp := L.foldl Dy (false, ⟨#[]⟩, 0)
def vZ (L : List ac) (key : ByteArray) (seq : Int) : fp := oX (bK (cF L key seq))
theorem qH {L : List ac} {k : Nat} {e : ac} (h : L[k]? = some e) : oX (L.take (k + 1)) = Dy (oX (L.take k)) e := by
  rw [GH, h]
  simp [oX]
end Go.Proofs.YtpobkmjicbobdaaGreat
namespace Go.Proofs.YtpobkmjicbobdaaGreat
open Go.RowKit
/-! What the laws of cells say, of lists alone. -/
theorem Ce {A : List ac} {q : Int} (h : ∀ x ∈ A, ¬ q < x.2.1) : kU A q A.length = A.length := by
  match hA : A.length with
  | 0 => rfl
  | k + 1 =>
    have ha := j' (show k < A.length by omega)
    rw [kU, ha]
    simp only
    rw [if_neg (h _ (GQ _))]
theorem yS (A B : List ac) (q : Int) : ∀ k, k ≤ A.length → kU (A ++ B) q k = kU A q k
  | 0, _ => rfl
  | k + 1, hk => by
    have h1 : (A ++ B)[k]? = A[k]? := Gt hk
    rw [kU, kU, h1, yS A B q k (by omega)]
theorem vl {A B : List ac} {q : Int} (h : ∀ x ∈ B, q < x.2.1) : ∀ k, k ≤ B.length → kU (A ++ B) q (A.length + k) = kU A q A.length
  | 0, _ => yS A B q A.length (Gg _)
  | k + 1, hk => by
    have ha : (A ++ B)[A.length + k]? = some (B[k]'hk) := by
      rw [Gm (by omega), Hx, j' hk]
    show kU (A ++ B) q (A.length + k + 1) = _
    rw [kU, ha]
    simp only
    rw [if_pos (h _ (GQ _))]
    exact vl h k (by omega)
theorem pW {A B : List ac} {e : ac} (h : ∀ x ∈ B, e.2.1 < x.2.1) : fw (A ++ B) e = fw A e ++ B := by
  have hp := vl (A := A) h B.length (Gg _)
  have hl := xI A e.2.1 A.length
  unfold fw
  rw [Gj, hp, List.take_append_of_le_length hl, List.drop_append_of_le_length hl]
  simp
theorem Ag {A : List ac} {e : ac} (h : ∀ x ∈ A, ¬ e.2.1 < x.2.1) : fw A e = A ++ [e] := by
  unfold fw
  rw [Ce h]
  simp
theorem vf {A : List ac} {e : ac} (h : A.Pairwise (fun a b => a.2.1 ≤ b.2.1)) : (fw A e).Pairwise (fun a b => a.2.1 ≤ b.2.1) := by
  have key : ∀ (B A : List ac), (A ++ B).Pairwise (fun a b => a.2.1 ≤ b.2.1) → (∀ x ∈ B, e.2.1 < x.2.1) → (fw (A ++ B) e).Pairwise (fun a b => a.2.1 ≤ b.2.1) := by
    intro B A
    induction hn : A.length generalizing A B with
    | zero =>
      intro hs hB
      rw [G6] at hn
      subst hn
      rw [pW hB]
      have : fw [] e = [e] := by simp [fw, kU]
      rw [this]
      simp only [GU] at hs
      exact GG.2 ⟨fun x hx => by have := hB x hx; omega, hs⟩
    | succ n m =>
      intro hs hB
      obtain ⟨g, x, rfl⟩ : ∃ g x, A = g ++ [x] := ⟨A.dropLast, A.getLast (by intro h; simp [h] at hn), (List.dropLast_concat_getLast _).symm⟩
      simp at hn
      by_cases hx : e.2.1 < x.2.1
      · have := m (x :: B) g hn (by simpa using hs) (by intro y hy; rcases Gz.1 hy with rfl | hy; exact hx; exact hB y hy)
        simpa using this
      · rw [pW hB, Ag]
        · rw [GJ, GJ]
          rw [GJ] at hs
          rw [Hh] at hs ⊢
          obtain ⟨h1, h2, h3⟩ := hs
          have d := (GG.1 (show (x :: B).Pairwise (fun a b => a.2.1 ≤ b.2.1) by simpa using h2))
          refine ⟨h1, ?_, ?_⟩
          · simp only [List.singleton_append]
            rw [GG, GG]
            refine ⟨?_, ?_, d.2⟩
            · intro y hy
              rcases Gz.1 hy with rfl | hy
              · omega
              · exact d.1 y hy
            · intro y hy
              have := hB y hy
              omega
          · intro y hy z hz
            simp only [List.singleton_append, Gz] at hz
            have f := h3 y hy x (by simp)
            rcases hz with rfl | rfl | hz
            · exact f
            · omega
            · exact h3 y hy z (by simp [hz])
        · intro y hy
          rcases Gw.1 hy with hy | hy
          · rw [GJ, Hh] at hs
            have := hs.2.2 y hy x (by simp)
            omega
          · simp at hy
            subst hy
            exact hx
  have := key [] A (by simpa using h) (by simp)
  simpa using this
theorem fI (L : List ac) : (bK L).Pairwise (fun a b => a.2.1 ≤ b.2.1) := by
  have key : ∀ (L A : List ac), A.Pairwise (fun a b => a.2.1 ≤ b.2.1) → (L.foldl fw A).Pairwise (fun a b => a.2.1 ≤ b.2.1) := by
    intro L
    induction L with
    | nil => intro A h; exact h
    | cons e r d => intro A h; exact d _ (vf h)
  exact key L [] List.Pairwise.nil
end Go.Proofs.YtpobkmjicbobdaaGreat
namespace Go.Proofs.YtpobkmjicbobdaaGreat
open Go.RowKit
/-! A cell is its last reset and what was added since. -/
end Go.Proofs.YtpobkmjicbobdaaGreat
namespace Go.Proofs.YtpobkmjicbobdaaGreat
set_option maxRecDepth 100000
set_option maxHeartbeats 40000000
open Go.RowKit
variable {C N T:List af} {L M:List ac} {S:List Int} {base n:Nat} {r:af} {w w':World}
def ev (M : List ac) (c : fp) : fp := M.foldr (fun e c => Dy c e) c
def noC : fp := (false, ⟨#[]⟩, 0)
theorem xA (h : aI L = true) : L.Pairwise (fun a b => bF a.1 a.2.1 b.1 b.2.1 = true) := by
  rw [GO]
  intro i j hi e d
  exact fu h d (j' hi) (j' e)
/-! One class. -/
open Go.RowKit in
def sa (s : Int) (X : fp) : fp := (true, X.2.1, wrap64 (X.2.2 + s))
theorem FE (X : fp) {e : ac} (h : e.2.2.1 = 1) : Dy X e = (true, e.2.2.2.1, e.2.2.2.2) := by simp [Dy, gV, h]
theorem FD (X : fp) {e : ac} (h : e.2.2.1 = 2) : Dy X e = (false, ⟨#[]⟩, 0) := by simp [Dy, gV, h]
theorem FC (X : fp) {e : ac} (h : e.2.2.1 = 3) : Dy X e = sa e.2.2.2.2 X := by simp [Dy, gV, h, sa]
open Go.RowKit in
theorem zD (x a b : Int) : wrap64 (wrap64 (x + a) + b) = wrap64 (x + (b + a)) := by unfold wrap64; omega
theorem add_add (a b : Int) (X : fp) : sa a (sa b X) = sa (a + b) X := by
  unfold sa
  simp only [zD]
def FW (e : ac) : Prop := (e.2.2.1 = 1 ∨ e.2.2.1 = 2 ∨ e.2.2.1 = 3) ∧ (e.2.2.1 = 2 → e.2.2.2.2 = 0)
open Go.RowKit in
theorem sV : ∀ (L : List ac) (d : Int) (X : fp), (∀ e ∈ L, FW e) →
    sa d (ev L X) = (if (aZ false d L).1 = 3 then sa (aZ false d L).2.2 X else (true, (aZ false d L).2.1, wrap64 (aZ false d L).2.2)) ∧ ((aZ false d L).1 = 1 ∨ ((aZ false d L).1 = 3 ∧ (aZ false d L).2.1 = ⟨#[]⟩))
  | [], d, X, _ => by simp [aZ, ev]
  | e :: R, d, X, h => by
    obtain ⟨hk, h0⟩ := h e GI
    have e1 : ev (e :: R) X = Dy (ev R X) e := rfl
    rw [e1]
    rcases hk with hk | hk | hk
    · have f : aZ false d (e :: R) = (1, e.2.2.2.1, d + e.2.2.2.2) := by simp [aZ, hk]
      rw [f, FE _ hk]
      simp only [sa]
      rw [if_neg (by omega), Int.add_comm]
      exact ⟨rfl, .inl trivial⟩
    · have f : aZ false d (e :: R) = (1, ⟨#[]⟩, d + e.2.2.2.2) := by simp [aZ, hk]
      rw [f, FD _ hk, h0 hk]
      simp only [sa]
      rw [if_neg (by omega), Int.add_comm]
      exact ⟨rfl, .inl trivial⟩
    · have f : aZ false d (e :: R) = aZ false (d + e.2.2.2.2) R := by
        conv => lhs; unfold aZ
        rw [if_neg (by omega), if_neg (by omega)]
      rw [f, FC _ hk, add_add]
      exact sV R (d + e.2.2.2.2) X (fun x hx => h x (GM _ hx))
theorem Ey (b : Bool) : ∀ (c : List ac) (x : ac), x ∈ mW b c → ∃ y ∈ c, x.1 = y.1 ∧ x.2.1 = y.2.1
  | [], x, h => by cases h
  | e :: R, x, h => by
    have h' : x ∈ eo b e.1 e.2.1 (e :: R) := h
    unfold eo at h'
    by_cases h1 : ee (aZ true 0 (e :: R)).2.2 = true
    · rw [if_pos h1] at h'
      by_cases h2 : b = true ∧ (aZ true 0 (e :: R)).1 = 2
      · rw [if_pos h2] at h'; cases h'
      · rw [if_neg h2] at h'
        have := GC.1 h'
        rw [this]
        exact ⟨e, GI, rfl, rfl⟩
    · rw [if_neg h1] at h'
      exact ⟨x, h', rfl, rfl⟩
/-! The classes of a key. -/
/-! All keys. -/
/-! One class and its one entry. -/
theorem Av : ∀ (L : List ac) (d : Int), (∀ e ∈ L, FW e) → (aZ false d L).1 = 1 ∨ ((aZ false d L).1 = 3 ∧ (aZ false d L).2.1 = ⟨#[]⟩) := fun L d h => (sV L d noC h).2
theorem ye (e : ac) (R : List ac) (h : ∀ x ∈ e :: R, FW x) : (aZ true 0 (e :: R)).1 = 1 ∨ ((aZ true 0 (e :: R)).1 = 2 ∧ (aZ true 0 (e :: R)).2.1 = ⟨#[]⟩ ∧ (aZ true 0 (e :: R)).2.2 = 0) ∨ ((aZ true 0 (e :: R)).1 = 3 ∧ (aZ true 0 (e :: R)).2.1 = ⟨#[]⟩) := by
  obtain ⟨hk, h0⟩ := h e GI
  rcases hk with hk | hk | hk
  · have d : aZ true 0 (e :: R) = (1, e.2.2.2.1, 0 + e.2.2.2.2) := by simp [aZ, hk]
    rw [d]; exact .inl rfl
  · have d : aZ true 0 (e :: R) = (2, ⟨#[]⟩, 0 + e.2.2.2.2) := by simp [aZ, hk]
    rw [d, h0 hk]; exact .inr (.inl ⟨rfl, rfl, rfl⟩)
  · have d : aZ true 0 (e :: R) = aZ false (0 + e.2.2.2.2) R := by
      conv => lhs; unfold aZ
      rw [if_neg (by omega), if_neg (by omega)]
    rw [d]
    rcases Av R (0 + e.2.2.2.2) (fun x hx => h x (GM _ hx)) with h1 | h1
    · exact .inl h1
    · exact .inr (.inr h1)
/-! The classes of a key. -/
/-! All keys. -/
theorem vG : ∀ (L : List ac) (f : Bool) (d : Int), (∀ e ∈ L, e.2.2.2.1.size ≤ 60) → (aZ f d L).2.1.size ≤ 60 := by
  intro L
  induction L with
  | nil => intro f d _; exact Gl _
  | cons e R g =>
    intro f d h
    unfold aZ
    split
    · exact h e (GI ..)
    · split
      · exact Gl _
      · exact g false _ (fun x hx => h x (GM _ hx))
def yB (e : ac) : Bool := dq e.1 e.2.1 e.2.2.1 e.2.2.2.1 e.2.2.2.2
theorem zf {e: ac} (h : yB e = true) : FW e ∧ e.2.2.2.1.size ≤ 60 := by
  unfold yB dq at h
  simp only [Gx, decide_eq_true_eq] at h
  obtain ⟨_, _, _, _, _, h5, h6⟩ := h
  refine ⟨⟨?_, ?_⟩, h5⟩
  · by_cases f : e.2.2.1 = 1
    · exact .inl f
    · by_cases d : e.2.2.1 = 2
      · exact .inr (.inl d)
      · by_cases g : e.2.2.1 = 3
        · exact .inr (.inr g)
        · rw [pq f d g] at h6; cases h6
  · intro d
    rw [d, iB] at h6
    simp only [Gx, decide_eq_true_eq] at h6
    exact h6.2
theorem Fk (b : Bool) : ∀ c : List ac, (∀ e ∈ c, yB e = true) → ∀ x ∈ mW b c, yB x = true
  | [], _, x, hx => by cases hx
  | e :: R, h, x, hx => by
    by_cases hs : ee (aZ true 0 (e :: R)).2.2 = true
    · have o := h e GI
      have m := vG (e :: R) true 0 (fun y hy => (zf (h y hy)).2)
      have hf := ye e R (fun y hy => (zf (h y hy)).1)
      have f : x ∈ eo b e.1 e.2.1 (e :: R) := hx
      unfold eo at f
      rw [if_pos hs] at f
      obtain ⟨d, t, s, u⟩ : ∃ d t s, aZ true 0 (e :: R) = (d, t, s) := ⟨_, _, _, rfl⟩
      rw [u] at hs hf m f
      simp only at hs hf m f
      by_cases h2 : b = true ∧ d = 2
      · rw [if_pos h2] at f; cases f
      · rw [if_neg h2] at f
        have g := GC.1 f
        rw [g]
        unfold yB dq at o ⊢
        simp only [Gx, decide_eq_true_eq, ee] at o hs ⊢
        obtain ⟨a1, a2, a3, _⟩ := o
        refine ⟨a1, a2, a3, hs.1, hs.2, m, ?_⟩
        by_cases h3 : b = true ∧ d = 3
        · rw [if_pos h3]; exact pp
        · rw [if_neg h3]
          rcases hf with rfl | ⟨rfl, rfl, rfl⟩ | ⟨rfl, rfl⟩
          · exact pp
          · rw [iB]; rfl
          · rw [mE]; rfl
    · have f : x ∈ eo b e.1 e.2.1 (e :: R) := hx
      unfold eo at f
      rw [if_neg hs] at f
      exact h x f
theorem pE (p : ac → Prop) (S : List Int) (d : Bool) {L : List ac} (s : ∀ b c, (∀ e ∈ c, e ∈ L) → c.length ≤ L.length → ∀ x ∈ mW b c, p x) : ∀ x ∈ bU L S d, p x := by
  unfold bU
  by_cases hr : aI L = true
  · rw [if_pos hr]
    intro x hx
    obtain ⟨G, hG, o⟩ := IA.1 hx
    have key : ∀ g : List (List ac), (∀ c ∈ g, (∀ e ∈ c, e ∈ L) ∧ c.length ≤ L.length) → ∀ e ∈ (g.foldr (Sq.stepD mW) (d, [])).2, p e := by
      intro g
      induction g with
      | nil => intro _ e f; cases f
      | cons c g A =>
        intro h e f
        have m := A (fun x hx => h x (GM _ hx))
        rw [List.foldr_cons] at f
        generalize g.foldr (Sq.stepD mW) (d, []) = y at m f
        have u : e ∈ mW y.1 c ++ y.2 := f
        rcases Gw.1 u with h1 | h1
        · exact s _ c (h c GI).1 (h c GI).2 e h1
        · exact m e h1
    exact key _ (fun c hc => ⟨fun e f => (iO _ _ G hG).2 e ((iO _ _ c hc).2 e f), Gq (iO _ _ c hc).1 (iO _ _ G hG).1⟩) x o
  · rw [if_neg hr]; intro x hx; cases hx
theorem uN (h : ∀ e ∈ L, yB e = true) (S : List Int) (d : Bool) : ∀ x ∈ bU L S d, yB x = true :=
  pE _ S d (fun b c hc _ => Fk b c (fun e f => h e (hc e f)))
/-! Keys and times of what is left. -/
def kq (e : ac) : ByteArray × Int := (e.1, e.2.1)
theorem Fj (b : Bool) : ∀ c : List ac, ((mW b c).map kq).Sublist (c.map kq)
  | [] => In _
  | e :: R => by
    show ((eo b e.1 e.2.1 (e :: R)).map kq).Sublist _
    unfold eo
    by_cases h1 : ee (aZ true 0 (e :: R)).2.2 = true
    · rw [if_pos h1]
      by_cases h2 : b = true ∧ (aZ true 0 (e :: R)).1 = 2
      · rw [if_pos h2]; exact List.nil_sublist _
      · rw [if_neg h2]
        simp only [If, IB, kq]
        exact List.Sublist.cons_cons _ (List.nil_sublist _)
    · rw [if_neg h1]; exact In _
theorem vE (d : Bool) : ∀ e : List (List ac), ((e.foldr (Sq.stepD mW) (d, [])).2.map kq).Sublist (e.flatten.map kq)
  | [] => In _
  | c :: e => by
    have f := vE d e
    rw [List.foldr_cons, Hq, Ht]
    generalize e.foldr (Sq.stepD mW) (d, []) = g at f ⊢
    show ((mW g.1 c ++ g.2).map kq).Sublist _
    rw [Ht]
    exact IF (Fj _ c) f
theorem qI (S : List Int) (d : Bool) : ∀ e : List (List ac), ((e.flatMap (eV S d)).map kq).Sublist (e.flatten.map kq)
  | [] => In _
  | G :: e => by
    have f := qI S d e
    have h := vE d (Sq.parts (ib S) G)
    rw [Sq.parts_flat] at h
    rw [IS, Hq, Ht, Ht]
    exact IF h f
theorem uM (h : L.Pairwise (fun a b => bF a.1 a.2.1 b.1 b.2.1 = true)) (S : List Int) (d : Bool) : (bU L S d).Pairwise (fun a b => bF a.1 a.2.1 b.1 b.2.1 = true) := by
  unfold bU
  by_cases hr : aI L = true
  · rw [if_pos hr]
    have hs := qI S d (Sq.parts fl L)
    rw [Sq.parts_flat] at hs
    have h1 : (L.map kq).Pairwise (fun a b => bF a.1 a.2 b.1 b.2 = true) := List.pairwise_map.2 h
    exact List.pairwise_map.1 (h1.sublist hs)
  · rw [if_neg hr]; exact List.Pairwise.nil
theorem Ad (hl : L.length = n) (h1 : ∀ e ∈ L, dq e.1 e.2.1 e.2.2.1 e.2.2.2.1 e.2.2.2.2 = true) (h2 : ∀ j, 1 ≤ j → j < n → ∀ x y, L[j - 1]? = some x → L[j]? = some y → bF x.1 x.2.1 y.1 y.2.1 = true) : aI L = true := by
  refine mw (k := n) (fun j g => ?_) (by omega)
  have d : j < L.length := by omega
  have f := j' d
  match j, g, d, f with
  | 0, _, d, f => rw [lc f]; exact h1 _ (GQ d)
  | j + 1, g, d, f =>
    have hd := j' (l := L) (i := j) (by omega)
    rw [iQ f hd, h1 _ (GQ d), h2 (j + 1) (by omega) g _ _ (show L[j + 1 - 1]? = _ from hd) f]
    rfl
theorem ji (hr : aI L = true) (S : List Int) (d : Bool) : aI (bU L S d) = true := by
  have hp := uM (xA hr) S d
  refine Ad rfl (uN (fun e m => by obtain ⟨j, f⟩ := GW m; exact eC hr f) S d) (fun j h1 h2 x y hx hy => ?_)
  obtain ⟨hi, o⟩ := F'.1 hx
  obtain ⟨f, g⟩ := F'.1 hy
  have := (GO.1 hp) (j - 1) j hi f (by omega)
  rw [o, g] at this
  exact this
structure cX (w:World) (base:Nat) (a:Option Addr) (n c:Nat) (L:List ac):Prop where
 nil:a=none→n=0∧c=0∧L=[]
 own:∀x,a=some x→∃g,x=⟨g,0,none⟩∧ah w base g n c L
theorem cX.some {g c:Nat} (h:ah w base g n c L):cX w base (pT g) n c L:=⟨(fun e=>by cases e),(fun x e=>by cases e;exact ⟨g,rfl,h⟩)⟩
theorem cX.none (w:World) (base:Nat):cX w base none 0 0 []:=⟨fun _=>⟨rfl,rfl,rfl⟩,fun x e=>by cases e⟩
theorem cX.len {a:Option Addr} {c:Nat} (h:cX w base a n c L):L.length=n:=by
 cases a with
 | none=>obtain ⟨h1,_,h3⟩:=h.nil rfl;rw [h1,h3];rfl
 | some x=>obtain ⟨g,_,h2⟩:=h.own x rfl;exact h2.len
theorem cX.entsAt {a:Option Addr} {c:Nat} (h:cX w base a n c L):aj w a n c L:=by
 cases a with
 | none =>
  obtain ⟨h1,h2,h3⟩:=h.nil rfl;subst h1 h2 h3;exact ⟨rfl,Gg _,Gl _,by simp,fun _=>rfl,(fun x e=>by cases e),(fun x e=>by cases e)⟩
 | some x=>obtain ⟨g,rfl,h2⟩:=h.own x rfl;exact h2.entsAt
theorem cX.lt {a:Option Addr} {c:Nat} (h:cX w base a n c L):∀x,a=.some x→base≤x.block∧x.block<w.heap.size:=fun x e=>by
 obtain ⟨g,rfl,h2⟩:=h.own x e
 exact h2.lt
theorem cX.grown {a:Option Addr} {c:Nat} {row:Option Nat} (h:cX w base a n c L) (hg:w.grownBy w' row) (d:∀x,a=.some x→.some x.block≠row):cX w' base a n c L :=
 ⟨h.nil,fun x e=>by obtain ⟨g,rfl,h2⟩:=h.own x e;exact ⟨g,rfl,h2.grown hg (d _ e)⟩⟩
theorem cX.mono {base':Nat} {a:Option Addr} {c:Nat} (h:cX w base a n c L) (hb:base'≤base):cX w base' a n c L :=
 ⟨h.nil,fun x e=>by obtain ⟨g,rfl,h2⟩:=h.own x e;exact ⟨g,rfl,h2.mono hb⟩⟩
theorem qF (hb:Bl w w'):w.grownBy w' none:=⟨hb.os,hb.tape,hb.output,hb.size,fun k hk _=>hb.block k hk⟩
theorem cX.below {a:Option Addr} {c:Nat} (h:cX w base a n c L) (hb:Bl w w'):cX w' base a n c L:=h.grown (qF hb) (fun x _ e=>by cases e)
theorem Bb (w:World) (T:TypeId) (s t:ByteArray) (q d n:Int):∀j u,(bg (s,q,d,t,n))[j]?=some u→(w.alloc (.cells #[.string s,iT q,iT d,.string t,iT n] T)).cell? ((⟨w.heap.size,0,none⟩:Addr).add j)=some u:=by
 intro j u e;rw [Gv];match j,e with
 | 0,e=>simp [bg] at e;subst e;simp
 | 1,e=>simp [bg] at e;subst e;simp
 | 2,e=>simp [bg] at e;subst e;simp
 | 3,e=>simp [bg] at e;subst e;simp
 | 4,e=>simp [bg] at e;subst e;simp
 | j+5,e=>simp [bg] at e
theorem yQ {W:World} {b b' e A s D n':Nat} {v u:Value} {xs m:List Value} (h:W.ownsRow b e s v n xs) (h':W.ownsRow b' A D u n' m) (o:e≠A) {k:Nat} (hk:v.ownBlock=some k):u.ownBlock≠some k:=fun f=>by
 rcases h.2 with ⟨rfl,_⟩ | ⟨g,E,B,rfl,_,hg,_⟩
 · cases hk
 · cases hk
   rcases h'.2 with ⟨rfl,_⟩ | ⟨F,x,y,rfl,_,d,_⟩
   · cases f
   · cases f
     rw [hg] at d
     cases d
     exact o rfl
theorem gP (hs:uw M) (f:∀e ∈ M,dq e.1 e.2.1 e.2.2.1 e.2.2.2.1 e.2.2.2.2=true):aI M=true:=by
 refine mw (k:=M.length) ?_ (Gg _);intro j d;have hg:M[j]?=some M[j]:=j' d;match j,d,hg with
 | 0,d,hg=>rw [lc hg];exact f _ (GQ d)
 | i+1,d,hg =>
  have hi:M[i]?=some (M[i]'(by omega)):=j' (by omega);rw [iQ hg hi,f _ (GQ d)];exact (GO.1 hs) i (i+1) (by omega) d (by omega)
theorem tX {a b:ac} (h:aU b a=false) (hd:¬(a.1=b.1∧a.2.1=b.2.1)):aU a b=true:=by
 have h1:=sT a.1 b.1 a.2.1 b.2.1;unfold aU at h ⊢;rw [h,Bool.or_false] at h1;rw [h1];by_cases e:a.1=b.1
 · have:¬a.2.1=b.2.1:=fun e2=>hd ⟨e,e2⟩
   simp [this]
 · simp [e]
def gS (L:List ac):Prop:=L.Pairwise (fun a b=>¬(a.1=b.1∧a.2.1=b.2.1))
theorem ix {A B:List ac} (h:gS A) (p:A.Perm B):gS B :=
 (List.Perm.pairwise_iff (fun {_ _} h e=>h ⟨e.1.symm,e.2.symm⟩) p).1 h
theorem tF (h:aI L=true):gS L:=by
 refine (gY h).imp ?_;rintro a b d ⟨e1,e2⟩;unfold aU at d;rw [e1,e2,il] at d;cases d
theorem nd (hw:mS M) (d:gS M):uw M:=by
 refine (List.Pairwise.and hw d).imp ?_;rintro a b ⟨h1,h2⟩;exact tX h1 h2
theorem oH {F G:List ac} (u:gS F) (p:F.Perm G):bG F=bG G :=
 jG (nd (bO F).1 (ix u (bO F).2.symm)) (bO G).1 ((bO F).2.trans (p.trans (bO G).2.symm))
def iR (T:List af):ByteArray:=match T[0]? with | some r=>fJ (bh r.1) T | none=>⟨#[]⟩
def fE (T:List af):ByteArray:=match T[0]? with | some r=>dw (aQ r.1) T | none=>⟨#[]⟩
def En (T N:List af):List af:=N.filter (ep (iR T) (fE T))
def offR (T N:List af):List af:=N.filter (fun r=>!ep (iR T) (fE T) r)
def dQ (T N:List af):List af:=T++En T N
def lK (T N C:List af) (nx:Int):Bool:=decide (nx=2) || decide ((C.filter (ep (iR (dQ T N)) (fE (dQ T N)))).length=0)
def uO (T N C:List af) (S:List Int) (nx:Int):List ac:=bU (bG (bE (dQ T N)).flatten) S (lK T N C nx)
def dL (L:List ac):List af:=(fh L L.length).1
def dX (T N C:List af) (S:List Int) (nx:Int):List af:=dH (offR T N) (dL (uO T N C S nx))
def xO (T N C:List af) (S:List Int) (nx:Int):Bool:=ip (dX T N C S nx) && decide ((dX T N C S nx).length≤8)
theorem fD {a b:ByteArray} (h:Op.bytesLess a.toList b.toList=true):fK a b=true:=by unfold fK;rw [h];rfl
theorem eU (h:aI L=true):mS L:=by
 have:=(bO L).1;rwa [jG (gY h) this (bO L).2.symm]
theorem jg (h:aI L=true) (h1:1≤L.length):fK (bh L) (aQ L)=true:=by
 obtain ⟨e,d,e1⟩:=lV h1;rw [e1];exact (er (eU h) d).2
theorem yU {k1 k2:ByteArray} {i j:Nat} (h:fZ N k1 k2 i j) (f:fK k1 k2=true) (e:∀r ∈ N,aI r.1=true∧1≤r.1.length):i≤j:=by
 apply Classical.byContradiction;intro hc;have g:j<N.length:=by have:=h.1;omega
 have hr:=j' g;obtain ⟨a,_,_,d⟩:=h.2.2 j _ hr;have a:=a (by omega);have d:=d (Gg _);have hn:=e _ (Gk hr);have h1:=cT (cT f (fD d)) (jg hn.1 hn.2);rw [dK,a] at h1;cases h1
theorem tO (h0:1≤T.length) (d:∀r ∈ T,aI r.1=true∧1≤r.1.length):bh (bG (bE T).flatten)=iR T∧aQ (bG (bE T).flatten)=fE T:=by
 have hr:=j' (l:=T) (i:=0) (by omega);have:=xF (Gk hr) d rfl;unfold iR fE;rw [hr];exact this
theorem Do (h0:1≤T.length) (d:∀r ∈ T,aI r.1=true∧1≤r.1.length):1≤(bG (bE T).flatten).length:=by
 rw [kL];match T,h0,d with
 | r :: T,_,d =>
  have:=(d r (by simp)).2;simp [bE];omega
theorem oR (h0:1≤T.length) (d:∀r ∈ T,aI r.1=true∧1≤r.1.length):fK (iR T) (fE T)=true:=by
 obtain ⟨h1,h2⟩:=tO h0 d;rw [← h1,← h2];obtain ⟨e,f,e1⟩:=lV (Do h0 d);rw [e1];exact (er (bO _).1 f).2
structure gN (T N:List af):Prop where
 t0:1≤T.length
 tok:∀r ∈ T,aI r.1=true∧1≤r.1.length
 nok:∀r ∈ N,aI r.1=true∧1≤r.1.length
 ap:bi N=true
 un:gS ((bE T).flatten++(bE N).flatten)
theorem lW (T N:List af):(En T N).Sublist N:=List.filter_sublist
theorem nM (A B:List af):(bE (A++B)).flatten=(bE A).flatten++(bE B).flatten:=by simp [bE]
theorem gN.all (h:gN T N):∀r ∈ dQ T N,aI r.1=true∧1≤r.1.length:=fun r hr=>by
 rcases Gw.1 hr with h1 | h1
 · exact h.tok r h1
 · exact h.nok r ((lW T N).subset h1)
theorem gN.all0 (h:gN T N):1≤(dQ T N).length:=by
 have:=h.t0;unfold dQ;rw [Gj];omega
theorem n8 {A B:List (List ac)} (h:A.Sublist B):A.flatten.Sublist B.flatten:=by
 induction h with
 | slnil=>exact In _
 | cons a _ d=>rw [Hq];exact d.trans (List.sublist_append_right _ _)
 | cons_cons a _ d=>rw [Hq,Hq];exact IF (In _) d
theorem gN.unAll (h:gN T N):gS (bE (dQ T N)).flatten:=by
 unfold dQ;rw [nM];refine Hw ?_ h.un;exact IF (In _) (n8 ((lW T N).map _))
theorem xU (d:∀r ∈ T,aI r.1=true∧1≤r.1.length):∀e ∈ (bE T).flatten,dq e.1 e.2.1 e.2.2.1 e.2.2.2.1 e.2.2.2.2=true:=fun e f=>by
 obtain ⟨L,hL,h1⟩:=Im.1 f
 obtain ⟨r,hr,rfl⟩:=G9.1 hL
 obtain ⟨j,g⟩:=GW h1
 exact eC (d r hr).1 g
theorem gN.right (h:gN T N):aI (bG (bE (dQ T N)).flatten)=true:=by
 obtain ⟨h1,h2⟩:=bO (bE (dQ T N)).flatten;exact gP (nd h1 (ix h.unAll h2.symm)) (fun e d=>xU h.all e (h2.subset d))
theorem gN.cut (h:gN T N) {i j:Nat} (hm:fZ N (iR T) (fE T) i j):i≤j∧En T N=(N.drop i).take (j - i)∧offR T N=N.take i++N.drop j:=by
 have d:=yU hm (oR h.t0 h.tok) h.nok;exact ⟨d,oQ hm d⟩
theorem gN.merged (h:gN T N) {i j:Nat} (hm:fZ N (iR T) (fE T) i j):bG (bE ((N.drop i).take (j - i))++[bG (bE T).flatten]).flatten=bG (bE (dQ T N)).flatten:=by
 refine (oH h.unAll ?_).symm;rw [← (h.cut hm).2.1];unfold dQ;rw [nM,Ia];simp only [Hq,List.flatten_nil,Iq];exact List.perm_append_comm.trans (List.Perm.append_left _ (bO _).2.symm)
theorem gN.bare (h:gN T N) (hC:∀r ∈ C,aI r.1=true∧1≤r.1.length) {i j:Nat} (hm:fZ C (iR (dQ T N)) (fE (dQ T N)) i j) (nx:Int):(decide (nx=2) || decide (i=j))=lK T N C nx:=by
 have d:=yU hm (oR h.all0 h.all) hC;have hf:=(oQ hm d).1;unfold lK;rw [hf,Gn,Gy];have:=hm.1;have:=hm.2.1;congr 1
 rw [decide_eq_decide];omega
theorem mZ (h:mS L) {a c:Nat} (d:a≤c) (hc:c<L.length):fK (iS L a) (iS L c)=true:=by
 rw [li (j' (show a<L.length by omega)),li (j' hc)];by_cases e:a=c
 · subst e;exact eW _
 · exact pw ((GO.1 h) a c (by omega) hc (by omega))
theorem nK {a b:Nat} (d:a<b):bh (eP L a b).1=iS L a:=by
 have h:(eP L a b).1[0]?=L[a]?:=by
  show ((L.drop a).take (b - a))[0]?=_
  rw [G3 (by omega),Hb,Hl]
 unfold bh iS;rw [h];cases L[a]? <;> rfl
theorem sJ {a b:Nat} (hb:b≤L.length):(eP L a b).1.length=b - a:=by
 show ((L.drop a).take (b - a)).length=_
 rw [Gn,Gy];omega
theorem mc (L:List ac):∀k,k≤L.length→(fh L k).2≤k∧(∀r ∈ (fh L k).1,∃a b,a<b∧b≤(fh L k).2∧r=eP L a b)∧(fh L k).1.Pairwise (fun r s=>∃a b c d,a<b∧b≤c∧c<d∧d≤L.length∧r=eP L a b∧s=eP L c d)
 | 0,_=>⟨Gg _,(fun r h=>by cases h),List.Pairwise.nil⟩
 | k+1,hk=>by
  obtain ⟨h1,h2,h3⟩:=mc L k (by omega)
  obtain ⟨B,f,hB⟩:∃B f,fh L k=(B,f):=⟨_,_,rfl⟩
  rw [hB] at h1 h2 h3
  simp only at h1 h2 h3
  cases hc:gU L f (k+1) with
  | false=>rw [ut hB hc];exact ⟨by omega,h2,h3⟩
  | true =>
   rw [qV hB hc]
   refine ⟨Gg _,fun r hr=>?_,?_⟩
   · rcases Gw.1 hr with h | h
     · obtain ⟨a,b,x1,g,e⟩:=h2 r h
       exact ⟨a,b,x1,by show b≤k+1;omega,e⟩
     · rw [GC] at h
       exact ⟨f,k+1,by omega,Gg _,h⟩
   · rw [Hh]
     refine ⟨h3,ID _ _,fun r hr s hs=>?_⟩
     rw [GC] at hs
     obtain ⟨a,b,x1,g,e⟩:=h2 r hr
     exact ⟨a,b,f,k+1,x1,g,by omega,hk,e,hs⟩
theorem ur (h:r ∈ dL L):∃a b,a<b∧b≤L.length∧r=eP L a b:=by
 obtain ⟨h1,h2,_⟩:=mc L L.length (Gg _);obtain ⟨a,b,x1,e,d⟩:=h2 r h;exact ⟨a,b,x1,by omega,d⟩
theorem oc (h:r ∈ dL L):1≤r.1.length:=by
 obtain ⟨a,b,x1,d,rfl⟩:=ur h;rw [sJ d];omega
theorem uq (h:r ∈ dL L):∀e ∈ r.1,e ∈ L:=by
 obtain ⟨a,b,x1,f,rfl⟩:=ur h;intro e d;exact Ha (GX d)
theorem zt (h:r ∈ dL L):∃e ∈ L,bh r.1=e.1:=by
 obtain ⟨e,d,e1⟩:=lV (oc h);exact ⟨e,uq h e d,e1⟩
theorem DA (hw:mS L):(dL L).Pairwise (fun a b=>nY (bh a.1) (bh b.1)=false):=by
 refine (mc L L.length (Gg _)).2.2.imp ?_;rintro r s ⟨a,b,c,d,h1,h2,h3,h4,rfl,rfl⟩;rw [nK h1,nK h3,ua];have:=mZ hw (a:=a) (c:=c) (by omega) (by omega);rw [dK] at this;simpa using this
theorem xi {b:Bool} {e:ac} (h:e ∈ bU L S b):∃x ∈ L,x.1=e.1:=by
 unfold bU at h;split at h
 · have hs:=qI S b (Sq.parts fl L);rw [Sq.parts_flat] at hs;obtain ⟨x,hx,e1⟩:=G9.1 (hs.subset (G9.2 ⟨e,h,rfl⟩));exact ⟨x,hx,congrArg (fun p:ByteArray × Int=>p.1) e1⟩
 · cases h
theorem eZ {N:List af} (h:bi N=true) (e:∀r ∈ N,aI r.1=true∧1≤r.1.length):∀d a,a+(d+1)<N.length→∀x y,N[a]?=some x→N[a+(d+1)]?=some y→Op.bytesLess (aQ x.1).toList (bh y.1).toList=true
 | 0,a,hl,x,y,hx,hy=>by
  have h1:=(GL.1 h) (a+1) (G7.2 (by omega))
  rw [lq hy (by omega) (by simpa using hx)] at h1
  exact h1
 | d+1,a,hl,x,y,hx,hy=>by
  have hz:=j' (l:=N) (i:=a+(d+1)) (by omega)
  have o:=eZ h e d a (by omega) x _ hx hz
  have h1:=(GL.1 h) (a+(d+1+1)) (G7.2 (by omega))
  rw [lq hy (by omega) (by rw [show a+(d+1+1) - 1=a+(d+1) by omega];exact hz)] at h1
  have g:=e _ (Gk hz)
  have f:=jg g.1 g.2
  have e1:fK (aQ x.1) (bh y.1)=true:=cT (cT (fD o) f) (fD h1)
  cases hg:Op.bytesLess (aQ x.1).toList (bh y.1).toList with
  | true=>rfl
  | false =>
   have e2:fK (bh y.1) (aQ x.1)=true:=by rw [dK,hg];rfl
   have e3:=cT e2 (cT (fD o) f)
   rw [dK] at e3
   have m:Op.bytesLess (aQ (N[a+(d+1)]'(by omega)).1).toList (bh y.1).toList=true:=h1
   rw [m] at e3
   cases e3
theorem ik {a b c:ByteArray} (h1:fK a b=true) (h2:Op.bytesLess b.toList c.toList=true):Op.bytesLess a.toList c.toList=true:=by
 cases hg:Op.bytesLess a.toList c.toList with
 | true=>rfl
 | false =>
  have e2:fK c a=true:=by rw [dK,hg];rfl
  have e3:=cT e2 h1;rw [dK,h2] at e3;cases e3
theorem tH {d:Int} {e:ac} (h:e ∈ uO T N C S d):∃r ∈ dQ T N,∃x ∈ r.1,x.1=e.1:=by
 obtain ⟨x,hx,e1⟩:=xi h;have hx:=(bO _).2.subset hx;obtain ⟨L,hL,h1⟩:=Im.1 hx;obtain ⟨r,hr,rfl⟩:=G9.1 hL;exact ⟨r,hr,x,h1,e1⟩
theorem gN.runs (h:gN T N) (C:List af) (S:List Int) (J:Int) {i j:Nat} (hm:fZ N (iR T) (fE T) i j):dX T N C S J=N.take i++dL (uO T N C S J)++N.drop j:=by
 obtain ⟨U,H,E⟩:=h.cut hm;have D:=tO h.t0 h.tok;have hw:mS (uO T N C S J):=eU (ji h.right S _);have K:∀r ∈ T,∀x ∈ r.1,fK (iR T) x.1=true∧fK x.1 (fE T)=true:=fun r hr x hx=>by
  have:=er (bO (bE T).flatten).1 (e:=x) ((bO _).2.symm.subset (Im.2 ⟨r.1,G9.2 ⟨r,hr,rfl⟩,hx⟩));rwa [D.1,D.2] at this
 have O:∀r ∈ En T N,∃t,i≤t∧t<j∧N[t]?=some r:=fun r hr=>by
  rw [H] at hr;obtain ⟨t,F⟩:=GW hr;have hl:=(F'.1 F).1;rw [Gn,Gy] at hl;rw [G3 (by omega),Hb] at F;exact ⟨i+t,by omega,by omega,F⟩
 unfold dX;rw [E];refine p7 _ _ _ (fun r hr z hz=>?_) (fun x hx r hr=>?_) (DA hw)
 · obtain ⟨e,I,e1⟩:=zt hr;obtain ⟨m,o,x,hx,e2⟩:=tH I;rw [ua,e1,← e2];obtain ⟨u,d⟩:=GW hz;rw [Hb] at d;have B:=(F'.1 d).1;rcases Gw.1 o with h1 | h1
   · exact ik (K m h1 x hx).2 ((hm.2.2 _ _ d).2.2.2 (by omega))
   · obtain ⟨t,W,Q,t3⟩:=O m h1;have s:=h.nok _ (Gk t3);have:=eZ h.ap h.nok (j+u - t - 1) t (by omega) m z t3 (by rw [show t+(j+u - t - 1+1)=j+u by omega];exact d);exact ik (er (eU s.1) hx).2 this
 · obtain ⟨e,I,e1⟩:=zt hr;obtain ⟨m,o,y,hy,e2⟩:=tH I;obtain ⟨u,d⟩:=GW (List.mem_of_getLast? hx);have B:=(F'.1 d).1;rw [Gn] at B;rw [G3 (by omega)] at d;have f:=h.nok _ (Gk d);have A:=jg f.1 f.2;have g:fK (bh x.1) y.1=true:=by
    rcases Gw.1 o with h1 | h1
    · exact cT (cT A (fD ((hm.2.2 _ _ d).1 (by omega)))) (K m h1 y hy).1
    · obtain ⟨t,W,Q,t3⟩:=O m h1;have s:=h.nok _ (Gk t3);have R:=(F'.1 t3).1;have:=eZ h.ap h.nok (t - u - 1) u (by omega) x m d (by rw [show u+(t - u - 1+1)=t by omega];exact t3);exact cT (cT A (fD this)) (er (eU s.1) hy).1
   rw [ua,e1,← e2];rw [dK] at g;simpa using g
theorem gN.fits (h:gN T N) (e:∀r ∈ N,r.1.length≤150) (C:List af) (S:List Int) (d:Int) {i j:Nat} (hm:fZ N (iR T) (fE T) i j):ip (dX T N C S d)=ip (dL (uO T N C S d)):=by
 rw [h.runs C S d hm];unfold ip;rw [List.all_append,List.all_append];have h1:(N.take i).all (fun r=>decide (r.1.length≤150))=true:=GL.2 fun r hr=>decide_eq_true (e r (GX hr))
 have h2:(N.drop j).all (fun r=>decide (r.1.length≤150))=true:=GL.2 fun r hr=>decide_eq_true (e r (Ha hr))
 rw [h1,h2];simp
end Go.Proofs.YtpobkmjicbobdaaGreat
