/-
  How a posting is read from its text, plain; no statement of the program stands here.
-/
import Derived.Test.YtfblpbihpmhgjaaDoorFm00
import Derived.Lib.AtoiAll
import Derived.Lib.AtoiTie
import Derived.Lib.ItoaMem
namespace Go.Proofs.YtfblpbihpmhgjaaDoor
open Go.RowKit

def digC (c : UInt8) : Bool := decide (48 ≤ c.toNat) && decide (c.toNat ≤ 57)
def wordC (c : UInt8) : Bool := lowB c || (digC c || decide (c.toNat = 45))
theorem decFrom_append : ∀ (a b : List UInt8) (acc : Nat), Lib.decFrom acc (a ++ b) = (Lib.decFrom acc a).bind fun x => Lib.decFrom x b
  | [], b, acc => rfl
  | c :: r, b, acc => by
    simp only [List.cons_append, Lib.decFrom]
    cases h : Lib.digitVal c with
    | none => rfl
    | some d => simp only [decFrom_append r b]
theorem digC_of (d : Nat) (h : d < 10) : digC (UInt8.ofNat (48 + d)) = true ∧ (UInt8.ofNat (48 + d)).toNat = 48 + d := by
  have e : (UInt8.ofNat (48 + d)).toNat = 48 + d := by simp; omega
  refine ⟨?_, e⟩
  unfold digC
  rw [e, decide_eq_true (by omega), decide_eq_true (by omega)]
  rfl
theorem digitVal_of (d : Nat) (h : d < 10) : Lib.digitVal (UInt8.ofNat (48 + d)) = some d := by
  unfold Lib.digitVal
  rw [(digC_of d h).2, if_pos (by omega)]
  congr 1
  omega
theorem decFrom_digits (u : Nat) : ∀ acc, ∃ k, Lib.decFrom acc (Lib.decDigits u) = some (acc * k + u) := by
  induction u using Nat.strongRecOn with
  | _ u ih =>
    intro acc
    by_cases h : u < 10
    · rw [Lib.decDigits_one h]
      exact ⟨10, by simp only [Lib.decFrom, digitVal_of u h]⟩
    · obtain ⟨k, hk⟩ := ih (u / 10) (by omega) acc
      rw [Lib.decDigits.eq_1 u, dif_neg h, decFrom_append, hk]
      refine ⟨k * 10, ?_⟩
      simp only [Option.bind_some, Lib.decFrom, digitVal_of (u % 10) (by omega)]
      congr 1
      rw [Nat.add_mul, ← Nat.mul_assoc]
      omega
theorem digits_all (u : Nat) : (Lib.decDigits u).all digC = true := by
  induction u using Nat.strongRecOn with
  | _ u ih =>
    by_cases h : u < 10
    · rw [Lib.decDigits_one h]
      simp only [List.all_cons, List.all_nil, (digC_of u h).1, Bool.and_true]
    · rw [Lib.decDigits.eq_1 u, dif_neg h, List.all_append, ih (u / 10) (by omega)]
      simp only [List.all_cons, List.all_nil, (digC_of (u % 10) (by omega)).1, Bool.and_true]
theorem digits_ne (u : Nat) : Lib.decDigits u ≠ [] := by
  intro h
  have h1 := Lib.nDigits_pos u
  rw [← Lib.decDigits_length, h] at h1
  simp at h1
theorem decNat_digits (u : Nat) : Lib.decNat (Lib.decDigits u) = some u := by
  obtain ⟨k, hk⟩ := decFrom_digits u 0
  unfold Lib.decNat
  rw [if_neg (by simpa using digits_ne u), hk]
  simp
theorem digits_few (u : Nat) (h : u ≤ 10000000) : (Lib.decDigits u).length ≤ 8 := by
  have e : ∀ (k u : Nat), u < 10 ^ k → 1 ≤ k → Lib.nDigits u ≤ k := by
    intro k
    induction k with
    | zero => intro u _ h; omega
    | succ k ih =>
      intro u hu _
      by_cases h9 : u < 10
      · rw [Lib.nDigits_small h9]; omega
      · rw [Lib.nDigits_big h9]
        have h10 : u / 10 < 10 ^ k := by rw [Nat.pow_succ] at hu; omega
        have hk : 1 ≤ k := by
          rcases Nat.eq_zero_or_pos k with rfl | h'
          · simp at h10; omega
          · exact h'
        have := ih (u / 10) h10 hk
        omega
  rw [Lib.decDigits_length]
  exact e 8 u (by omega) (by omega)
/-- A numeral is read as it was written. -/
theorem atoi_itoa (n : Int) (h0 : -10000000 ≤ n) (h1 : n ≤ 10000000) : Lib.atoiAll (Lib.itoa n) = .ok n := by
  have hlen : (Lib.itoa n).length ≤ 18 := by
    by_cases hn : n < 0
    · obtain ⟨u, rfl⟩ : ∃ u : Nat, n = -(u : Int) := ⟨(-n).toNat, by omega⟩
      rw [Lib.itoa_neg u (by omega), List.length_cons]
      have := digits_few u (by omega)
      omega
    · obtain ⟨u, rfl⟩ : ∃ u : Nat, n = u := ⟨n.toNat, by omega⟩
      rw [Lib.itoa_nonneg]
      have := digits_few u (by omega)
      omega
  rw [Lib.atoiAll_short _ hlen]
  have : Lib.atoi (Lib.itoa n) = some n := by
    by_cases hn : n < 0
    · obtain ⟨u, rfl⟩ : ∃ u : Nat, n = -(u : Int) := ⟨(-n).toNat, by omega⟩
      rw [Lib.itoa_neg u (by omega)]
      simp only [Lib.atoi, decNat_digits]
      rfl
    · obtain ⟨u, rfl⟩ : ∃ u : Nat, n = u := ⟨n.toNat, by omega⟩
      rw [Lib.itoa_nonneg]
      cases hd : Lib.decDigits u with
      | nil => exact absurd hd (digits_ne u)
      | cons c r =>
        have hc : digC c = true := by
          have := digits_all u
          rw [hd] at this
          simp only [List.all_cons, Bool.and_eq_true] at this
          exact this.1
        simp only [digC, Bool.and_eq_true, decide_eq_true_eq] at hc
        have e1 : (c == 45) = false := by
          rw [beq_eq_false_iff_ne]
          rintro rfl
          exact absurd hc.1 (by decide)
        have e2 : (c == 43) = false := by
          rw [beq_eq_false_iff_ne]
          rintro rfl
          exact absurd hc.1 (by decide)
        simp only [Lib.atoi, e1, e2]
        rw [← hd, decNat_digits]
        rfl
  rw [this]
  rfl
theorem itoa_word (n : Int) : ∀ c ∈ Lib.itoa n, wordC c = true := by
  intro c hc
  unfold Lib.itoa at hc
  have hd : ∀ u, c ∈ Lib.decDigits u → wordC c = true := by
    intro u hu
    have := List.all_eq_true.1 (digits_all u) c hu
    unfold wordC
    rw [this]
    simp
  split at hc
  · rcases List.mem_cons.1 hc with rfl | h
    · decide
    · exact hd _ h
  · exact hd _ hc

/-- A posting as far as its text has been scanned. -/
structure ScD where
  id : Int
  legs : List LegD
  acct : ByteArray
  cur : Int
  n : Int
  part : Nat
  word : List UInt8
def sc0 : ScD := ⟨0, [], ByteArray.empty, 0, 0, 0, []⟩
def sepC (part : Nat) : UInt8 := if part = 0 ∨ part = 3 then 32 else 58
def endP (s : ScD) : ScD × Bool :=
  if s.part = 1 then ({ s with acct := ⟨s.word.toArray⟩, part := 2, word := [] }, true)
  else match Lib.atoiAll s.word with
    | .ok v =>
      if s.part = 0 then ({ s with id := v, part := 1, word := [] }, decide (s.legs.length ≤ 4))
      else if s.part = 2 then ({ s with cur := v, part := 3, word := [] }, decide (s.legs.length ≤ 4))
      else ({ s with n := v, legs := s.legs ++ [(s.acct, s.cur, v)], part := 1, word := [] }, decide (s.legs.length + 1 ≤ 4))
    | _ => ({ s with word := [] }, false)
def scanP : List UInt8 → ScD → ScD
  | [], s => s
  | c :: r, s =>
    if c = sepC s.part then (if (endP s).2 = true then scanP r (endP s).1 else (endP s).1)
    else if wordC c = true then scanP r { s with word := s.word ++ [c] } else s
def readP (l : List UInt8) : ScD := (endP (scanP l sc0)).1

theorem word_sep {c : UInt8} (h : wordC c = true) (p : Nat) : c ≠ sepC p := by
  rintro rfl
  unfold sepC at h
  split at h
  · exact absurd h (by decide)
  · exact absurd h (by decide)
theorem scan_word : ∀ (u r : List UInt8) (s : ScD), (∀ c ∈ u, wordC c = true) → scanP (u ++ r) s = scanP r { s with word := s.word ++ u }
  | [], r, s, _ => by simp
  | c :: u, r, s, h => by
    have hc := h c (by simp)
    rw [List.cons_append, scanP, if_neg (word_sep hc _), if_pos hc, scan_word u r _ (fun x hx => h x (by simp [hx]))]
    simp
theorem acct_word {s : ByteArray} (h : acctB s = true) : ∀ c ∈ s.data.toList, wordC c = true := by
  intro c hc
  simp only [acctB, Bool.and_eq_true] at h
  have := List.all_eq_true.1 h.2.2 c hc
  unfold wordC
  rw [this]
  rfl
theorem scan_end {c : UInt8} {r : List UInt8} {s s' : ScD} (hc : c = sepC s.part) (he : endP s = (s', true)) : scanP (c :: r) s = scanP r s' := by rw [scanP, if_pos hc, he]; rfl
theorem scan_id (n i c m : Int) (L : List LegD) (a : ByteArray) (r : List UInt8) (h0 : -10000000 ≤ n) (h1 : n ≤ 10000000) (hL : L.length ≤ 4) : scanP (Lib.itoa n ++ 32 :: r) ⟨i, L, a, c, m, 0, []⟩ = scanP r ⟨n, L, a, c, m, 1, []⟩ := by
  rw [scan_word _ _ _ (itoa_word n)]
  refine scan_end (show (32 : UInt8) = sepC 0 by decide) ?_
  simp [endP, atoi_itoa n h0 h1, hL]
theorem scan_acct (i c m : Int) (L : List LegD) (a b : ByteArray) (r : List UInt8) (ha : acctB a = true) : scanP (a.data.toList ++ 58 :: r) ⟨i, L, b, c, m, 1, []⟩ = scanP r ⟨i, L, a, c, m, 2, []⟩ := by
  rw [scan_word _ _ _ (acct_word ha)]
  refine scan_end (show (58 : UInt8) = sepC 1 by decide) ?_
  simp [endP]
theorem scan_cur (n i c m : Int) (L : List LegD) (a : ByteArray) (r : List UInt8) (h0 : -10000000 ≤ n) (h1 : n ≤ 10000000) (hL : L.length ≤ 4) : scanP (Lib.itoa n ++ 58 :: r) ⟨i, L, a, c, m, 2, []⟩ = scanP r ⟨i, L, a, n, m, 3, []⟩ := by
  rw [scan_word _ _ _ (itoa_word n)]
  refine scan_end (show (58 : UInt8) = sepC 2 by decide) ?_
  simp [endP, atoi_itoa n h0 h1, hL]
theorem scan_n (n i c m : Int) (L : List LegD) (a : ByteArray) (r : List UInt8) (h0 : -10000000 ≤ n) (h1 : n ≤ 10000000) (hL : L.length + 1 ≤ 4) : scanP (Lib.itoa n ++ 32 :: r) ⟨i, L, a, c, m, 3, []⟩ = scanP r ⟨i, L ++ [(a, c, n)], a, c, n, 1, []⟩ := by
  rw [scan_word _ _ _ (itoa_word n)]
  refine scan_end (show (32 : UInt8) = sepC 3 by decide) ?_
  simp [endP, atoi_itoa n h0 h1]
  omega
theorem scan_last (n i c m : Int) (L : List LegD) (a : ByteArray) (h0 : -10000000 ≤ n) (h1 : n ≤ 10000000) : (endP (scanP (Lib.itoa n) ⟨i, L, a, c, m, 3, []⟩)).1.id = i ∧ (endP (scanP (Lib.itoa n) ⟨i, L, a, c, m, 3, []⟩)).1.legs = L ++ [(a, c, n)] := by
  have e := scan_word (Lib.itoa n) [] ⟨i, L, a, c, m, 3, []⟩ (itoa_word n)
  rw [List.append_nil] at e
  rw [e]
  simp [scanP, endP, atoi_itoa n h0 h1]
/-- Behind all legs, from the number of one on. -/
theorem scan_legs : ∀ (R : List LegD) (n i c m : Int) (L : List LegD) (a : ByteArray), (∀ l ∈ R, legB l = true) → -10000000 ≤ n → n ≤ 10000000 → L.length + 1 + R.length ≤ 4 →
    ((endP (scanP (Lib.itoa n ++ legsT R) ⟨i, L, a, c, m, 3, []⟩)).1.id = i ∧ (endP (scanP (Lib.itoa n ++ legsT R) ⟨i, L, a, c, m, 3, []⟩)).1.legs = L ++ (a, c, n) :: R)
  | [], n, i, c, m, L, a, _, h0, h1, _ => by
    rw [show legsT [] = [] from rfl, List.append_nil]
    exact scan_last n i c m L a h0 h1
  | (a', c', n') :: R, n, i, c, m, L, a, h, h0, h1, hl => by
    have hlb := h _ (List.mem_cons_self ..)
    obtain ⟨p0, p1, p2, p3, p4, p5⟩ := legB_parts hlb
    simp only at p0 p1 p2 p3 p4 p5
    have ha : acctB a' = true := by
      simp only [legB, Bool.and_eq_true] at hlb
      exact hlb.1
    simp only [List.length_cons] at hl
    have e1 : legsT ((a', c', n') :: R) = 32 :: (a'.data.toList ++ 58 :: (Lib.itoa c' ++ 58 :: (Lib.itoa n' ++ legsT R))) := by simp [legsT, legT]
    rw [e1, scan_n n i c m L a _ h0 h1 (by omega), scan_acct _ _ _ _ a' _ _ ha, scan_cur c' _ _ _ _ _ _ (by omega) (by omega) (by simp; omega)]
    have ih := scan_legs R n' i c' n (L ++ [(a, c, n)]) a' (fun l hl => h l (List.mem_cons_of_mem _ hl)) (by omega) (by omega) (by simp; omega)
    simpa using ih
/-- What was written is read. -/
theorem read_text {id : Int} {L : List LegD} (h : postB id L = true) : (readP (postT id L)).id = id ∧ (readP (postT id L)).legs = L := by
  obtain ⟨i0, i1, l1, l4, hall⟩ := postB_all h
  cases L with
  | nil => simp at l1
  | cons l r =>
    obtain ⟨a, c, n⟩ := l
    have hlb := hall _ (List.mem_cons_self ..)
    obtain ⟨p0, p1, p2, p3, p4, p5⟩ := legB_parts hlb
    simp only at p0 p1 p2 p3 p4 p5
    have ha : acctB a = true := by
      simp only [legB, Bool.and_eq_true] at hlb
      exact hlb.1
    simp only [List.length_cons] at l4
    have e1 : postT id ((a, c, n) :: r) = Lib.itoa id ++ 32 :: (a.data.toList ++ 58 :: (Lib.itoa c ++ 58 :: (Lib.itoa n ++ legsT r))) := by simp [postT, legsT, legT]
    unfold readP sc0
    rw [e1, scan_id id _ _ _ _ _ _ (by omega) (by omega) (by simp), scan_acct _ _ _ _ a _ _ ha, scan_cur c _ _ _ _ _ _ (by omega) (by omega) (by simp)]
    simpa using scan_legs r n id c 0 [] a (fun l hl => hall l (List.mem_cons_of_mem _ hl)) (by omega) (by omega) (by simp; omega)
/-- Two postings of one text are one. -/
theorem text_inj {id id' : Int} {L L' : List LegD} (h : postB id L = true) (h' : postB id' L' = true) (e : postT id L = postT id' L') : id = id' ∧ L = L' := by
  have a := read_text h
  have b := read_text h'
  rw [e] at a
  exact ⟨a.1.symm.trans b.1, a.2.symm.trans b.2⟩

end Go.Proofs.YtfblpbihpmhgjaaDoor
