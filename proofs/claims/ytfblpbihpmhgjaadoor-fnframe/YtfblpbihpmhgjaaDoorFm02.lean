/-
  How the document reads a posting from its text, plain; no statement of the program stands here.
-/
import Derived.Test.YtfblpbihpmhgjaaDoorFm01
namespace Go.Proofs.YtfblpbihpmhgjaaDoor
open Go.RowKit

/-- The pieces of a text between bytes c. -/
def cutL (c : UInt8) : List UInt8 → List (List UInt8)
  | [] => [[]]
  | x :: r => if x = c then [] :: cutL c r else match cutL c r with
    | [] => [[x]]
    | h :: t => (x :: h) :: t
theorem cut_end (c : UInt8) : ∀ (u : List UInt8), c ∉ u → cutL c u = [u]
  | [], _ => rfl
  | x :: u, h => by
    simp only [List.mem_cons, not_or] at h
    rw [cutL, if_neg (fun e => h.1 e.symm), cut_end c u h.2]
theorem cut_hit (c : UInt8) (r : List UInt8) : ∀ (u : List UInt8), c ∉ u → cutL c (u ++ c :: r) = u :: cutL c r
  | [], _ => by rw [List.nil_append, cutL, if_pos rfl]
  | x :: u, h => by
    simp only [List.mem_cons, not_or] at h
    rw [List.cons_append, cutL, if_neg (fun e => h.1 e.symm), cut_hit c r u h.2]
theorem cut_ne (c : UInt8) (l : List UInt8) : 1 ≤ (cutL c l).length := by
  cases l with
  | nil => simp [cutL]
  | cons x r =>
    rw [cutL]
    split
    · simp
    · split
      · simp
      · simp

/-- A leg's own text. -/
def legQ (l : LegD) : List UInt8 := l.1.data.toList ++ 58 :: (Lib.itoa l.2.1 ++ 58 :: Lib.itoa l.2.2)
theorem legT_q (l : LegD) : legT l = 32 :: legQ l := rfl
theorem word_not {l : List UInt8} {c : UInt8} (h : ∀ x ∈ l, wordC x = true) (hc : wordC c = false) : c ∉ l := fun hm => by rw [h c hm] at hc; cases hc
theorem legB_acctQ {l : LegD} (h : legB l = true) : acctB l.1 = true := by
  simp only [legB, Bool.and_eq_true] at h
  exact h.1
theorem cut_leg {l : LegD} (h : legB l = true) : cutL 58 (legQ l) = [l.1.data.toList, Lib.itoa l.2.1, Lib.itoa l.2.2] := by
  unfold legQ
  rw [cut_hit 58 _ _ (word_not (acct_word (legB_acctQ h)) (by decide)), cut_hit 58 _ _ (word_not (itoa_word _) (by decide)), cut_end 58 _ (word_not (itoa_word _) (by decide))]
theorem legQ_sp {l : LegD} (h : legB l = true) : (32 : UInt8) ∉ legQ l := by
  unfold legQ
  simp only [List.mem_append, List.mem_cons, not_or]
  exact ⟨word_not (acct_word (legB_acctQ h)) (by decide), by decide, word_not (itoa_word _) (by decide), by decide, word_not (itoa_word _) (by decide)⟩
theorem cut_legs (u : List UInt8) (hu : (32 : UInt8) ∉ u) : ∀ (L : List LegD), (∀ l ∈ L, legB l = true) → cutL 32 (u ++ legsT L) = u :: L.map legQ
  | [], _ => by rw [legsT, List.append_nil, cut_end 32 u hu]; rfl
  | l :: r, h => by
    rw [legsT, legT_q, List.cons_append, cut_hit 32 _ u hu, cut_legs (legQ l) (legQ_sp (h l (by simp))) r (fun x hx => h x (by simp [hx]))]
    rfl
theorem cut_post {id : Int} {L : List LegD} (h : postB id L = true) : cutL 32 (postT id L) = Lib.itoa id :: L.map legQ :=
  cut_legs _ (word_not (itoa_word id) (by decide)) L (postB_all h).2.2.2.2

/-- The number that digits spell. -/
def dv (l : List UInt8) : Nat := l.foldl (fun a c => a * 10 + (c.toNat - 48)) 0
theorem dv_snoc (l : List UInt8) (c : UInt8) : dv (l ++ [c]) = dv l * 10 + (c.toNat - 48) := by simp [dv]
theorem dv_from : ∀ (l : List UInt8) (a : Nat), l.all digC = true → Lib.decFrom a l = some (l.foldl (fun a c => a * 10 + (c.toNat - 48)) a)
  | [], a, _ => rfl
  | c :: r, a, h => by
    simp only [List.all_cons, Bool.and_eq_true] at h
    have hc := h.1
    simp only [digC, Bool.and_eq_true, decide_eq_true_eq] at hc
    simp only [Lib.decFrom, Lib.digitVal, if_pos hc, List.foldl_cons]
    exact dv_from r _ h.2
theorem dv_digits (u : Nat) : dv (Lib.decDigits u) = u := by
  have h1 := dv_from _ 0 (digits_all u)
  have h2 := decNat_digits u
  unfold Lib.decNat at h2
  rw [if_neg (by simpa using digits_ne u)] at h2
  exact Option.some.inj (h1.symm.trans h2)
theorem dv_lt : ∀ (l : List UInt8), l.all digC = true → dv l < 10 ^ l.length := by
  intro l
  suffices h : ∀ (l : List UInt8) (a k : Nat), l.all digC = true → a < 10 ^ k → l.foldl (fun a c => a * 10 + (c.toNat - 48)) a < 10 ^ (k + l.length) by
    intro hl
    have := h l 0 0 hl (by decide)
    simpa [dv] using this
  intro l
  induction l with
  | nil => intro a k _ ha; simpa using ha
  | cons c r ih =>
    intro a k h ha
    simp only [List.all_cons, Bool.and_eq_true] at h
    have hc := h.1
    simp only [digC, Bool.and_eq_true, decide_eq_true_eq] at hc
    have := ih (a * 10 + (c.toNat - 48)) (k + 1) h.2 (by rw [Nat.pow_succ]; omega)
    simp only [List.foldl_cons, List.length_cons]
    rw [show k + (r.length + 1) = k + 1 + r.length by omega]
    exact this
theorem digits_head (u : Nat) : 1 ≤ u → ∀ r, Lib.decDigits u ≠ 48 :: r := by
  induction u using Nat.strongRecOn with
  | _ u ih =>
    intro hu r hr
    by_cases h : u < 10
    · rw [Lib.decDigits_one h] at hr
      have e := (List.cons.inj hr).1
      have := congrArg UInt8.toNat e
      rw [(digC_of u h).2] at this
      have e48 : (48 : UInt8).toNat = 48 := by decide
      omega
    · rw [Lib.decDigits.eq_1 u, dif_neg h] at hr
      cases hd : Lib.decDigits (u / 10) with
      | nil => exact digits_ne _ hd
      | cons x y =>
        rw [hd, List.cons_append] at hr
        have e := (List.cons.inj hr).1
        subst e
        exact ih (u / 10) (by omega) (by omega) y hd
/-- What a number's digits are, by its sign. -/
theorem itoa_cases (m : Int) (h0 : -10000000 ≤ m) (h1 : m ≤ 10000000) : (∃ u : Nat, 1 ≤ u ∧ m = -(u : Int) ∧ Lib.itoa m = 45 :: Lib.decDigits u ∧ (Lib.decDigits u).length ≤ 8) ∨ (∃ u : Nat, m = (u : Int) ∧ Lib.itoa m = Lib.decDigits u ∧ (Lib.decDigits u).length ≤ 8) := by
  by_cases hn : m < 0
  · obtain ⟨u, rfl⟩ : ∃ u : Nat, m = -(u : Int) := ⟨(-m).toNat, by omega⟩
    exact Or.inl ⟨u, by omega, rfl, Lib.itoa_neg u (by omega), digits_few u (by omega)⟩
  · obtain ⟨u, rfl⟩ : ∃ u : Nat, m = u := ⟨m.toNat, by omega⟩
    exact Or.inr ⟨u, rfl, Lib.itoa_nonneg u, digits_few u (by omega)⟩

end Go.Proofs.YtfblpbihpmhgjaaDoor
