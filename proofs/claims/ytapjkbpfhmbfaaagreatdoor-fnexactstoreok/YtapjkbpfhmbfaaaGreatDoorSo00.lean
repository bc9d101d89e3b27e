/-
  Plain functions on lists and numbers, out of which what the program answers is told: no statement of the program stands here.
  The text of a posting, plain; no statement of the program stands here.
  How a posting is read from its text, plain; no statement of the program stands here.
  How the document reads a posting from its text, plain; no statement of the program stands here.
  Plain functions on keys, entries and cells: no statement of the program stands here.
  Plain: the order of texts by their bytes, and of entries; no statement of the program stands here.
  Plain: the order of entries is an order; no statement of the program stands here.
  Plain: the marks of keys, entries in order, and runs; no statement of the program stands here.
  Plain: entries in order, what a run may have and what is found in it; no statement of the program stands here.
-/
import Derived.WalkKit
import Derived.Lib.ItoaLen
import Derived.Lib.AtoiAll
import Derived.Lib.AtoiTie
import Derived.Lib.ItoaMem
import Derived.Lib.Bytealg
import Derived.Lib.Small
import Derived.Lib.Strings
namespace Go.Proofs.YtapjkbpfhmbfaaaGreatDoor
open Go.RowKit
def lowB (b : UInt8) : Bool := decide (97 ≤ b.toNat) && decide (b.toNat ≤ 122)
theorem take_snoc_b (s : ByteArray) (k : Nat) (h : k < s.size) : s.data.toList.take (k + 1) = s.data.toList.take k ++ [s[k]] := by
  rw [List.take_succ_eq_append_getElem (by simpa using h)]; rfl
theorem ret_bool {a b : Bool} (h : a = b) : Ending.returned (.bool a) = .returned (.bool b) := by rw [h]
theorem ret_int {k : IntKind} {a b : Int} (h : a = b) : Ending.returned (.int k a) = .returned (.int k b) := by rw [h]
end Go.Proofs.YtapjkbpfhmbfaaaGreatDoor

namespace Go.Proofs.YtapjkbpfhmbfaaaGreatDoor
open Go.RowKit
theorem str_size (a : List UInt8) : (⟨a.toArray⟩ : ByteArray).size = a.length := by show a.toArray.size = _; simp
end Go.Proofs.YtapjkbpfhmbfaaaGreatDoor

namespace Go.Proofs.YtapjkbpfhmbfaaaGreatDoor
open Go.RowKit
def digC (c : UInt8) : Bool := decide (48 ≤ c.toNat) && decide (c.toNat ≤ 57)
def wordC (c : UInt8) : Bool := lowB c || (digC c || decide (c.toNat = 45))
theorem decFrom_append : ∀ (a b : List UInt8) (acc : Nat), Lib.decFrom acc (a ++ b) = (Lib.decFrom acc a).bind fun x => Lib.decFrom x b
  | [], b, acc => rfl
  | c :: r, b, acc => by
    simp only [List.cons_append, Lib.decFrom]
    cases h : Lib.digitVal c with
    | none => rfl
    | some d => simp only [decFrom_append r b]
theorem digC_of (d : Nat) (h : d < 10) : digC (UInt8.ofNat (48 + d)) = true ∧ (UInt8.ofNat (48 + d)).toNat = 48 + d := by
  have e : (UInt8.ofNat (48 + d)).toNat = 48 + d := by simp; omega
  refine ⟨?_, e⟩
  unfold digC
  rw [e, decide_eq_true (by omega), decide_eq_true (by omega)]
  rfl
theorem digitVal_of (d : Nat) (h : d < 10) : Lib.digitVal (UInt8.ofNat (48 + d)) = some d := by
  unfold Lib.digitVal
  rw [(digC_of d h).2, if_pos (by omega)]
  congr 1
  omega
theorem decFrom_digits (u : Nat) : ∀ acc, ∃ k, Lib.decFrom acc (Lib.decDigits u) = some (acc * k + u) := by
  induction u using Nat.strongRecOn with
  | _ u ih =>
    intro acc
    by_cases h : u < 10
    · rw [Lib.decDigits_one h]
      exact ⟨10, by simp only [Lib.decFrom, digitVal_of u h]⟩
    · obtain ⟨k, hk⟩ := ih (u / 10) (by omega) acc
      rw [Lib.decDigits.eq_1 u, dif_neg h, decFrom_append, hk]
      refine ⟨k * 10, ?_⟩
      simp only [Option.bind_some, Lib.decFrom, digitVal_of (u % 10) (by omega)]
      congr 1
      rw [Nat.add_mul, ← Nat.mul_assoc]
      omega
theorem digits_all (u : Nat) : (Lib.decDigits u).all digC = true := by
  induction u using Nat.strongRecOn with
  | _ u ih =>
    by_cases h : u < 10
    · rw [Lib.decDigits_one h]
      simp only [List.all_cons, List.all_nil, (digC_of u h).1, Bool.and_true]
    · rw [Lib.decDigits.eq_1 u, dif_neg h, List.all_append, ih (u / 10) (by omega)]
      simp only [List.all_cons, List.all_nil, (digC_of (u % 10) (by omega)).1, Bool.and_true]
theorem digits_ne (u : Nat) : Lib.decDigits u ≠ [] := by
  intro h
  have h1 := Lib.nDigits_pos u
  rw [← Lib.decDigits_length, h] at h1
  simp at h1
theorem decNat_digits (u : Nat) : Lib.decNat (Lib.decDigits u) = some u := by
  obtain ⟨k, hk⟩ := decFrom_digits u 0
  unfold Lib.decNat
  rw [if_neg (by simpa using digits_ne u), hk]
  simp
theorem digits_few (u : Nat) (h : u ≤ 10000000) : (Lib.decDigits u).length ≤ 8 := by
  have e : ∀ (k u : Nat), u < 10 ^ k → 1 ≤ k → Lib.nDigits u ≤ k := by
    intro k
    induction k with
    | zero => intro u _ h; omega
    | succ k ih =>
      intro u hu _
      by_cases h9 : u < 10
      · rw [Lib.nDigits_small h9]; omega
      · rw [Lib.nDigits_big h9]
        have h10 : u / 10 < 10 ^ k := by rw [Nat.pow_succ] at hu; omega
        have hk : 1 ≤ k := by
          rcases Nat.eq_zero_or_pos k with rfl | h'
          · simp at h10; omega
          · exact h'
        have := ih (u / 10) h10 hk
        omega
  rw [Lib.decDigits_length]
  exact e 8 u (by omega) (by omega)
theorem atoi_itoa (n : Int) (h0 : -10000000 ≤ n) (h1 : n ≤ 10000000) : Lib.atoiAll (Lib.itoa n) = .ok n := by
  have hlen : (Lib.itoa n).length ≤ 18 := by
    by_cases hn : n < 0
    · obtain ⟨u, rfl⟩ : ∃ u : Nat, n = -(u : Int) := ⟨(-n).toNat, by omega⟩
      rw [Lib.itoa_neg u (by omega), List.length_cons]
      have := digits_few u (by omega)
      omega
    · obtain ⟨u, rfl⟩ : ∃ u : Nat, n = u := ⟨n.toNat, by omega⟩
      rw [Lib.itoa_nonneg]
      have := digits_few u (by omega)
      omega
  rw [Lib.atoiAll_short _ hlen]
  have : Lib.atoi (Lib.itoa n) = some n := by
    by_cases hn : n < 0
    · obtain ⟨u, rfl⟩ : ∃ u : Nat, n = -(u : Int) := ⟨(-n).toNat, by omega⟩
      rw [Lib.itoa_neg u (by omega)]
      simp only [Lib.atoi, decNat_digits]
      rfl
    · obtain ⟨u, rfl⟩ : ∃ u : Nat, n = u := ⟨n.toNat, by omega⟩
      rw [Lib.itoa_nonneg]
      cases hd : Lib.decDigits u with
      | nil => exact absurd hd (digits_ne u)
      | cons c r =>
        have hc : digC c = true := by
          have := digits_all u
          rw [hd] at this
          simp only [List.all_cons, Bool.and_eq_true] at this
          exact this.1
        simp only [digC, Bool.and_eq_true, decide_eq_true_eq] at hc
        have e1 : (c == 45) = false := by
          rw [beq_eq_false_iff_ne]
          rintro rfl
          exact absurd hc.1 (by decide)
        have e2 : (c == 43) = false := by
          rw [beq_eq_false_iff_ne]
          rintro rfl
          exact absurd hc.1 (by decide)
        simp only [Lib.atoi, e1, e2]
        rw [← hd, decNat_digits]
        rfl
  rw [this]
  rfl
theorem itoa_word (n : Int) : ∀ c ∈ Lib.itoa n, wordC c = true := by
  intro c hc
  unfold Lib.itoa at hc
  have hd : ∀ u, c ∈ Lib.decDigits u → wordC c = true := by
    intro u hu
    have := List.all_eq_true.1 (digits_all u) c hu
    unfold wordC
    rw [this]
    simp
  split at hc
  · rcases List.mem_cons.1 hc with rfl | h
    · decide
    · exact hd _ h
  · exact hd _ hc
end Go.Proofs.YtapjkbpfhmbfaaaGreatDoor

namespace Go.Proofs.YtapjkbpfhmbfaaaGreatDoor
open Go.RowKit
theorem word_not {l : List UInt8} {c : UInt8} (h : ∀ x ∈ l, wordC x = true) (hc : wordC c = false) : c ∉ l := fun hm => by rw [h c hm] at hc; cases hc
def dv (l : List UInt8) : Nat := l.foldl (fun a c => a * 10 + (c.toNat - 48)) 0
theorem dv_snoc (l : List UInt8) (c : UInt8) : dv (l ++ [c]) = dv l * 10 + (c.toNat - 48) := by simp [dv]
theorem dv_from : ∀ (l : List UInt8) (a : Nat), l.all digC = true → Lib.decFrom a l = some (l.foldl (fun a c => a * 10 + (c.toNat - 48)) a)
  | [], a, _ => rfl
  | c :: r, a, h => by
    simp only [List.all_cons, Bool.and_eq_true] at h
    have hc := h.1
    simp only [digC, Bool.and_eq_true, decide_eq_true_eq] at hc
    simp only [Lib.decFrom, Lib.digitVal, if_pos hc, List.foldl_cons]
    exact dv_from r _ h.2
theorem dv_digits (u : Nat) : dv (Lib.decDigits u) = u := by
  have h1 := dv_from _ 0 (digits_all u)
  have h2 := decNat_digits u
  unfold Lib.decNat at h2
  rw [if_neg (by simpa using digits_ne u)] at h2
  exact Option.some.inj (h1.symm.trans h2)
theorem dv_lt : ∀ (l : List UInt8), l.all digC = true → dv l < 10 ^ l.length := by
  intro l
  suffices h : ∀ (l : List UInt8) (a k : Nat), l.all digC = true → a < 10 ^ k → l.foldl (fun a c => a * 10 + (c.toNat - 48)) a < 10 ^ (k + l.length) by
    intro hl
    have := h l 0 0 hl (by decide)
    simpa [dv] using this
  intro l
  induction l with
  | nil => intro a k _ ha; simpa using ha
  | cons c r ih =>
    intro a k h ha
    simp only [List.all_cons, Bool.and_eq_true] at h
    have hc := h.1
    simp only [digC, Bool.and_eq_true, decide_eq_true_eq] at hc
    have := ih (a * 10 + (c.toNat - 48)) (k + 1) h.2 (by rw [Nat.pow_succ]; omega)
    simp only [List.foldl_cons, List.length_cons]
    rw [show k + (r.length + 1) = k + 1 + r.length by omega]
    exact this
theorem digits_head (u : Nat) : 1 ≤ u → ∀ r, Lib.decDigits u ≠ 48 :: r := by
  induction u using Nat.strongRecOn with
  | _ u ih =>
    intro hu r hr
    by_cases h : u < 10
    · rw [Lib.decDigits_one h] at hr
      have e := (List.cons.inj hr).1
      have := congrArg UInt8.toNat e
      rw [(digC_of u h).2] at this
      have e48 : (48 : UInt8).toNat = 48 := by decide
      omega
    · rw [Lib.decDigits.eq_1 u, dif_neg h] at hr
      cases hd : Lib.decDigits (u / 10) with
      | nil => exact digits_ne _ hd
      | cons x y =>
        rw [hd, List.cons_append] at hr
        have e := (List.cons.inj hr).1
        subst e
        exact ih (u / 10) (by omega) (by omega) y hd
theorem itoa_cases (m : Int) (h0 : -10000000 ≤ m) (h1 : m ≤ 10000000) : (∃ u : Nat, 1 ≤ u ∧ m = -(u : Int) ∧ Lib.itoa m = 45 :: Lib.decDigits u ∧ (Lib.decDigits u).length ≤ 8) ∨ (∃ u : Nat, m = (u : Int) ∧ Lib.itoa m = Lib.decDigits u ∧ (Lib.decDigits u).length ≤ 8) := by
  by_cases hn : m < 0
  · obtain ⟨u, rfl⟩ : ∃ u : Nat, m = -(u : Int) := ⟨(-m).toNat, by omega⟩
    exact Or.inl ⟨u, by omega, rfl, Lib.itoa_neg u (by omega), digits_few u (by omega)⟩
  · obtain ⟨u, rfl⟩ : ∃ u : Nat, m = u := ⟨m.toNat, by omega⟩
    exact Or.inr ⟨u, rfl, Lib.itoa_nonneg u, digits_few u (by omega)⟩
end Go.Proofs.YtapjkbpfhmbfaaaGreatDoor

namespace Go.Proofs.YtapjkbpfhmbfaaaGreatDoor
open Go.RowKit
def keyC (b : UInt8) : Bool := (decide (97 ≤ b.toNat) && decide (b.toNat ≤ 122)) || (decide (47 ≤ b.toNat) && decide (b.toNat ≤ 57))
def keyB (s : ByteArray) : Bool := decide (1 ≤ s.size) && (decide (s.size ≤ 8) && s.data.toList.all keyC)
theorem keyC_true {b : UInt8} (h : keyC b = true) : (97 ≤ (b.toNat : Int) ∧ (b.toNat : Int) ≤ 122) ∨ (47 ≤ (b.toNat : Int) ∧ (b.toNat : Int) ≤ 57) := by
  simp [keyC] at h; omega
theorem keyC_false {b : UInt8} (h : keyC b = false) : (b.toNat : Int) < 47 ∨ (57 < (b.toNat : Int) ∧ (b.toNat : Int) < 97) ∨ 122 < (b.toNat : Int) := by
  simp [keyC] at h
  by_cases h1 : b.toNat < 47
  · exact Or.inl (by omega)
  · by_cases h2 : b.toNat < 97
    · exact Or.inr (Or.inl (by omega))
    · exact Or.inr (Or.inr (by omega))
theorem key_take_snoc (s : ByteArray) (k : Nat) (h : k < s.size) (ha : (s.data.toList.take k).all keyC = true) (hb : keyC s[k] = true) : (s.data.toList.take (k + 1)).all keyC = true := by
  rw [take_snoc_b s k h, List.all_append, ha]; simp [hb]
theorem key_false_of (s : ByteArray) (k : Nat) (h : k < s.size) (hb : keyC s[k] = false) : keyB s = false := by
  have : s.data.toList.all keyC = false := by
    rw [Bool.eq_false_iff]
    intro hall
    rw [List.all_eq_true] at hall
    have hm : s[k] ∈ s.data.toList := by
      have : s.data.toList[k]'(by simpa using h) = s[k] := rfl
      rw [← this]; exact List.getElem_mem _
    rw [hall _ hm] at hb
    cases hb
  unfold keyB; rw [this]; simp
theorem keyB_small (s : ByteArray) (h : s.size < 1) : keyB s = false := by
  unfold keyB; have : decide (1 ≤ s.size) = false := decide_eq_false (by omega)
  rw [this]; rfl
theorem keyB_big (s : ByteArray) (h : 8 < s.size) : keyB s = false := by
  unfold keyB; have : decide (s.size ≤ 8) = false := decide_eq_false (by omega)
  rw [this]; simp
theorem keyB_of_all (s : ByteArray) (k : Nat) (hk : s.size ≤ k) (ha : (s.data.toList.take k).all keyC = true) : keyB s = (decide (1 ≤ s.size) && decide (s.size ≤ 8)) := by
  unfold keyB
  rw [List.take_of_length_le (by simpa using hk)] at ha
  simp [ha]
theorem keyB_all (s : ByteArray) (h1 : 1 ≤ s.size) (h8 : s.size ≤ 8) (k : Nat) (hk : s.size ≤ k) (ha : (s.data.toList.take k).all keyC = true) : keyB s = true := by
  rw [keyB_of_all s k hk ha]; simp [h1, h8]
theorem sz8_yes (n : Nat) (h : 1 ≤ (n : Int)) : decide ((n : Int) ≤ 8) = (decide (1 ≤ n) && decide (n ≤ 8)) := by
  have h1 : decide (1 ≤ n) = true := decide_eq_true (by omega)
  rw [h1, Bool.true_and, Bool.eq_iff_iff]; simp; omega
theorem sz8_no (n : Nat) (h : (n : Int) < 1) : false = (decide (1 ≤ n) && decide (n ≤ 8)) := by
  have h1 : decide (1 ≤ n) = false := decide_eq_false (by omega)
  rw [h1]; rfl
abbrev EntD := ByteArray × Int × Int × ByteArray × Int
def kindB (d : Int) (t : ByteArray) (n : Int) : Bool :=
  if d = 1 then true else if d = 2 then decide (t.size = 0) && decide (n = 0) else if d = 3 then decide (t.size = 0) else false
def entB (k : ByteArray) (q d : Int) (t : ByteArray) (n : Int) : Bool :=
  keyB k && (decide (1 ≤ q) && (decide (q ≤ 100000) && (decide (-1000000 ≤ n) && (decide (n ≤ 1000000) && (decide (t.size ≤ 60) && kindB d t n)))))
theorem entB_key {k t : ByteArray} {q d n : Int} (h : keyB k = false) : entB k q d t n = false := by simp [entB, h]
theorem entB_q1 {k t : ByteArray} {q d n : Int} (h : q < 1) : entB k q d t n = false := by
  have : decide (1 ≤ q) = false := decide_eq_false (by omega)
  simp [entB, this]
theorem entB_q2 {k t : ByteArray} {q d n : Int} (h : 100000 < q) : entB k q d t n = false := by
  have : decide (q ≤ 100000) = false := decide_eq_false (by omega)
  simp [entB, this]
theorem entB_n1 {k t : ByteArray} {q d n : Int} (h : n < -1000000) : entB k q d t n = false := by
  have : decide (-1000000 ≤ n) = false := decide_eq_false (by omega)
  simp [entB, this]
theorem entB_n2 {k t : ByteArray} {q d n : Int} (h : 1000000 < n) : entB k q d t n = false := by
  have : decide (n ≤ 1000000) = false := decide_eq_false (by omega)
  simp [entB, this]
theorem entB_t {k t : ByteArray} {q d n : Int} (h : 60 < t.size) : entB k q d t n = false := by
  have : decide (t.size ≤ 60) = false := decide_eq_false (by omega)
  simp [entB, this]
theorem entB_rest {k t : ByteArray} {q d n : Int} (h : keyB k = true) (h1 : 1 ≤ q) (h2 : q ≤ 100000) (h3 : -1000000 ≤ n) (h4 : n ≤ 1000000) (h5 : t.size ≤ 60) : entB k q d t n = kindB d t n := by
  simp [entB, h, h1, h2, h3, h4, h5]
theorem size_pos_of_ne {t : ByteArray} (h : t ≠ ByteArray.empty) : t.size ≠ 0 := by
  intro h0; apply h; apply ByteArray.ext; exact Array.eq_empty_of_size_eq_zero h0
theorem toList_ne {t : ByteArray} (h : t ≠ ByteArray.empty) : ¬ t.toList = [] := by
  intro h0; apply h; rw [ByteArray.toList_eq] at h0; apply ByteArray.ext; exact Array.toList_eq_nil_iff.1 h0
theorem kindB_1 {t : ByteArray} {n : Int} : kindB 1 t n = true := by simp [kindB]
theorem kindB_2 {t : ByteArray} {n : Int} : kindB 2 t n = (decide (t.size = 0) && decide (n = 0)) := by simp [kindB]
theorem kindB_3 {t : ByteArray} {n : Int} : kindB 3 t n = decide (t.size = 0) := by simp [kindB]
theorem kindB_0 {d : Int} {t : ByteArray} {n : Int} (h1 : d ≠ 1) (h2 : d ≠ 2) (h3 : d ≠ 3) : kindB d t n = false := by simp [kindB, h1, h2, h3]
end Go.Proofs.YtapjkbpfhmbfaaaGreatDoor
namespace Go.Proofs.YtapjkbpfhmbfaaaGreatDoor
open Go.RowKit
theorem cmp_cases : ∀ (a b : List UInt8), (Lib.compareBytes a b = -1 ∧ Op.bytesLess a b = true ∧ a ≠ b) ∨ (Lib.compareBytes a b = 0 ∧ Op.bytesLess a b = false ∧ a = b) ∨ (Lib.compareBytes a b = 1 ∧ Op.bytesLess a b = false ∧ a ≠ b)
  | [], [] => Or.inr (Or.inl ⟨rfl, rfl, rfl⟩)
  | [], _ :: _ => Or.inl ⟨rfl, rfl, by simp⟩
  | _ :: _, [] => Or.inr (Or.inr ⟨rfl, rfl, by simp⟩)
  | x :: a, y :: b => by
    have ih := cmp_cases a b
    unfold Lib.compareBytes Op.bytesLess
    by_cases h1 : x < y
    · have hne : x ≠ y := fun e => UInt8.lt_irrefl y (e ▸ h1)
      exact Or.inl ⟨by simp [h1], by simp [h1], fun e => hne (by simpa using (List.cons.inj e).1)⟩
    · by_cases h2 : y < x
      · have hne : x ≠ y := fun e => UInt8.lt_irrefl y (e ▸ h2)
        exact Or.inr (Or.inr ⟨by simp [h1, h2], by simp [h1, hne], fun e => hne (by simpa using (List.cons.inj e).1)⟩)
      · have he : x = y := UInt8.le_antisymm (UInt8.not_lt.1 h2) (UInt8.not_lt.1 h1)
        subst he
        rcases ih with ⟨p, q, r⟩ | ⟨p, q, r⟩ | ⟨p, q, r⟩
        · exact Or.inl ⟨by simp [h1, p], by simp [q], by simpa using r⟩
        · exact Or.inr (Or.inl ⟨by simp [h1, p], by simp [h1, q], by simpa using r⟩)
        · exact Or.inr (Or.inr ⟨by simp [h1, p], by simp [h1, q], by simpa using r⟩)
def lessB (ka : ByteArray) (qa : Int) (kb : ByteArray) (qb : Int) : Bool :=
  Op.bytesLess ka.data.toList kb.data.toList || (decide (ka = kb) && decide (qb < qa))
end Go.Proofs.YtapjkbpfhmbfaaaGreatDoor
namespace Go.Proofs.YtapjkbpfhmbfaaaGreatDoor
open Go.RowKit
theorem bless_self : ∀ a : List UInt8, Op.bytesLess a a = false
  | [] => rfl
  | x :: a => by
    unfold Op.bytesLess
    have := bless_self a
    simp [this]
theorem bless_asymm : ∀ a b : List UInt8, Op.bytesLess a b = true → Op.bytesLess b a = false
  | [], [], h => by simp [Op.bytesLess] at h
  | [], _ :: _, _ => rfl
  | _ :: _, [], h => by simp [Op.bytesLess] at h
  | x :: a, y :: b, h => by
    unfold Op.bytesLess at h ⊢
    have ih := bless_asymm a b
    simp only [Bool.or_eq_true, decide_eq_true_eq, Bool.and_eq_true, beq_iff_eq] at h
    rcases h with h | ⟨rfl, h⟩
    · have h1 : ¬ y < x := fun g => UInt8.lt_asymm h g
      have h2 : ¬ y = x := fun g => UInt8.lt_irrefl x (by rw [g] at h; exact h)
      simp [h1, h2]
    · simp [ih h]
theorem bless_total : ∀ a b : List UInt8, a ≠ b → Op.bytesLess a b = true ∨ Op.bytesLess b a = true
  | [], [], h => absurd rfl h
  | [], _ :: _, _ => Or.inl rfl
  | _ :: _, [], _ => Or.inr rfl
  | x :: a, y :: b, h => by
    unfold Op.bytesLess
    by_cases h1 : x < y
    · left; simp [h1]
    · by_cases h2 : y < x
      · right; simp [h2]
      · have he : x = y := UInt8.le_antisymm (UInt8.not_lt.1 h2) (UInt8.not_lt.1 h1)
        subst he
        have ih := bless_total a b (fun e => h (by rw [e]))
        rcases ih with ih | ih
        · left; simp [ih]
        · right; simp [ih]
theorem bless_trans : ∀ a b c : List UInt8, Op.bytesLess a b = true → Op.bytesLess b c = true → Op.bytesLess a c = true
  | _, _, [], _, h => by simp [Op.bytesLess] at h
  | [], _, _ :: _, _, _ => rfl
  | _ :: _, [], _ :: _, h, _ => by simp [Op.bytesLess] at h
  | x :: a, y :: b, z :: c, h, k => by
    unfold Op.bytesLess at h k ⊢
    simp only [Bool.or_eq_true, decide_eq_true_eq, Bool.and_eq_true, beq_iff_eq] at h k ⊢
    rcases h with h | ⟨rfl, h⟩
    · rcases k with k | ⟨rfl, k⟩
      · exact Or.inl (UInt8.lt_trans h k)
      · exact Or.inl h
    · rcases k with k | ⟨rfl, k⟩
      · exact Or.inl k
      · exact Or.inr ⟨rfl, bless_trans a b c h k⟩
theorem lessB_self (k : ByteArray) (q : Int) : lessB k q k q = false := by
  unfold lessB
  simp [bless_self]
theorem lessB_true {ka kb : ByteArray} {qa qb : Int} (h : lessB ka qa kb qb = true) : Op.bytesLess ka.data.toList kb.data.toList = true ∨ (ka = kb ∧ qb < qa) := by
  unfold lessB at h
  simpa using h
theorem lessB_asymm {ka kb : ByteArray} {qa qb : Int} (h : lessB ka qa kb qb = true) : lessB kb qb ka qa = false := by
  rcases lessB_true h with h | ⟨rfl, h⟩
  · have h1 := bless_asymm _ _ h
    have h2 : ¬ kb = ka := fun e => by rw [e, bless_self] at h; cases h
    unfold lessB
    simp [h1, h2]
  · unfold lessB
    have : ¬ qa < qb := by omega
    simp [bless_self, this]
theorem lessB_trans {ka kb kc : ByteArray} {qa qb qc : Int} (h : lessB ka qa kb qb = true) (k : lessB kb qb kc qc = true) : lessB ka qa kc qc = true := by
  unfold lessB
  rcases lessB_true h with h | ⟨rfl, h⟩
  · rcases lessB_true k with k | ⟨rfl, k⟩
    · simp [bless_trans _ _ _ h k]
    · simp [h]
  · rcases lessB_true k with k | ⟨rfl, k⟩
    · simp [k]
    · have : qc < qa := by omega
      simp [this]
theorem lessB_one (ka kb : ByteArray) (qa qb : Int) : (lessB ka qa kb qb || lessB kb qb ka qa) = (decide (¬ ka = kb) || decide (¬ qa = qb)) := by
  by_cases he : ka = kb
  · subst he
    unfold lessB
    rw [bless_self]
    by_cases h1 : qb < qa
    · have : ¬ qa = qb := by omega
      simp [h1, this]
    · by_cases h2 : qa < qb
      · have : ¬ qa = qb := by omega
        simp [h2, this]
      · have : qa = qb := by omega
        simp [this]
  · have hne : ka.data.toList ≠ kb.data.toList := fun e => he (ByteArray.ext (Array.toList_inj.1 e))
    unfold lessB
    rcases bless_total _ _ hne with h | h <;> simp [h, he]
end Go.Proofs.YtapjkbpfhmbfaaaGreatDoor
namespace Go.Proofs.YtapjkbpfhmbfaaaGreatDoor
open Go.RowKit
def hstep (h : Nat) (b : UInt8) : Nat := (31 * h + b.toNat) % 65521
def hashN (l : List UInt8) : Nat := l.foldl hstep 7
def markN (h : Nat) : Nat := 2 ^ (h % 16) ||| 2 ^ (h / 16 % 16)
def maskK (s : ByteArray) : Nat := markN (hashN s.data.toList)
theorem hash_step (s : ByteArray) (k : Nat) (h : k < s.size) : hashN (s.data.toList.take (k + 1)) = hstep (hashN (s.data.toList.take k)) s[k] := by
  rw [take_snoc_b s k h]; simp [hashN]
theorem pow_small {a : Nat} (h : a < 16) : 2 ^ a < 65536 := by
  have : 2 ^ a < 2 ^ 16 := Nat.pow_lt_pow_right (by omega) h
  exact this
theorem or_small {a b : Nat} (ha : a < 65536) (hb : b < 65536) : a ||| b < 65536 := Nat.or_lt_two_pow (n := 16) ha hb
theorem markN_lt (h : Nat) : markN h < 65536 := or_small (pow_small (Nat.mod_lt _ (by omega))) (pow_small (Nat.mod_lt _ (by omega)))
theorem maskK_lt (s : ByteArray) : maskK s < 65536 := markN_lt _
theorem or_step (a b i : Nat) : (a ||| b) / 2 ^ i = (a ||| b) / 2 ^ (i + 1) * 2 + (if a / 2 ^ i % 2 = 1 ∨ b / 2 ^ i % 2 = 1 then 1 else 0) := by
  have h1 : (a ||| b).testBit i = (a.testBit i || b.testBit i) := Nat.testBit_or ..
  rw [Nat.testBit_eq_decide_div_mod_eq, Nat.testBit_eq_decide_div_mod_eq, Nat.testBit_eq_decide_div_mod_eq] at h1
  have h2 : (a ||| b) / 2 ^ (i + 1) = (a ||| b) / 2 ^ i / 2 := by rw [Nat.pow_succ, Nat.div_div_eq_div_mul]
  rw [h2]
  by_cases h3 : a / 2 ^ i % 2 = 1 ∨ b / 2 ^ i % 2 = 1
  · rw [if_pos h3]
    have : (a ||| b) / 2 ^ i % 2 = 1 := by
      have : decide ((a ||| b) / 2 ^ i % 2 = 1) = true := by rw [h1]; simpa using h3
      exact of_decide_eq_true this
    omega
  · rw [if_neg h3]
    have : ¬ (a ||| b) / 2 ^ i % 2 = 1 := by
      have : decide ((a ||| b) / 2 ^ i % 2 = 1) = false := by
        rw [h1]
        have h4 : ¬ a / 2 ^ i % 2 = 1 := fun e => h3 (Or.inl e)
        have h5 : ¬ b / 2 ^ i % 2 = 1 := fun e => h3 (Or.inr e)
        simp [h4, h5]
      exact of_decide_eq_false this
    omega
def maskL (L : List EntD) : Nat := L.foldl (fun m e => m ||| maskK e.1) 0
theorem maskL_snoc {L : List EntD} {k : Nat} {e : EntD} (h : L[k]? = some e) : maskL (L.take (k + 1)) = maskL (L.take k) ||| maskK e.1 := by
  rw [List.take_add_one, h]; simp [maskL]
def okAt (L : List EntD) (j : Nat) : Bool :=
  match L[j]? with
  | none => true
  | some e => entB e.1 e.2.1 e.2.2.1 e.2.2.2.1 e.2.2.2.2 && (match j with | 0 => true | i + 1 => match L[i]? with | none => true | some d => lessB d.1 d.2.1 e.1 e.2.1)
def rightB (L : List EntD) : Bool := (List.range L.length).all (okAt L)
def RightTo (L : List EntD) (k : Nat) : Prop := ∀ j, j < k → okAt L j = true
theorem right_of {L : List EntD} {k : Nat} (h : RightTo L k) (hk : L.length ≤ k) : rightB L = true := by
  unfold rightB
  rw [List.all_eq_true]
  intro j hj
  exact h j (by have := List.mem_range.1 hj; omega)
theorem right_no {L : List EntD} {k : Nat} (hk : k < L.length) (h : okAt L k = false) : rightB L = false := by
  rw [Bool.eq_false_iff]
  intro h1
  unfold rightB at h1
  rw [List.all_eq_true] at h1
  rw [h1 k (List.mem_range.2 hk)] at h
  cases h
theorem right_snoc {L : List EntD} {k : Nat} (h : RightTo L k) (hk : okAt L k = true) : RightTo L (k + 1) := by
  intro j hj
  by_cases e : j = k
  · rw [e]; exact hk
  · exact h j (by omega)
theorem okAt_zero {L : List EntD} {e : EntD} (h : L[0]? = some e) : okAt L 0 = entB e.1 e.2.1 e.2.2.1 e.2.2.2.1 e.2.2.2.2 := by
  unfold okAt; rw [h]; simp
theorem okAt_succ {L : List EntD} {i : Nat} {d e : EntD} (h : L[i + 1]? = some e) (g : L[i]? = some d) : okAt L (i + 1) = (entB e.1 e.2.1 e.2.2.1 e.2.2.2.1 e.2.2.2.2 && lessB d.1 d.2.1 e.1 e.2.1) := by
  unfold okAt; simp only [h, g]
theorem okAt_ent {L : List EntD} {k : Nat} {e : EntD} (h : L[k]? = some e) (g : entB e.1 e.2.1 e.2.2.1 e.2.2.2.1 e.2.2.2.2 = false) : okAt L k = false := by
  unfold okAt; rw [h]; simp [g]
def runB (L : List EntD) (m : Int) : Bool := decide (1 ≤ L.length) && (decide (L.length ≤ 150) && (rightB L && decide (m = maskL L)))
theorem runB_few {L : List EntD} {m : Int} (h : L.length < 1) : runB L m = false := by
  have : decide (1 ≤ L.length) = false := decide_eq_false (by omega)
  simp [runB, this]
theorem runB_many {L : List EntD} {m : Int} (h : 150 < L.length) : runB L m = false := by
  have : decide (L.length ≤ 150) = false := decide_eq_false (by omega)
  simp [runB, this]
theorem runB_right {L : List EntD} {m : Int} (h : rightB L = false) : runB L m = false := by simp [runB, h]
theorem runB_mask {L : List EntD} {m : Int} (h1 : 1 ≤ L.length) (h2 : L.length ≤ 150) (h3 : rightB L = true) : runB L m = decide (m = maskL L) := by
  simp [runB, h1, h2, h3]
end Go.Proofs.YtapjkbpfhmbfaaaGreatDoor
namespace Go.Proofs.YtapjkbpfhmbfaaaGreatDoor
open Go.RowKit
theorem right_at {L : List EntD} (h : rightB L = true) (j : Nat) (hj : j < L.length) : okAt L j = true := by
  unfold rightB at h
  rw [List.all_eq_true] at h
  exact h j (List.mem_range.2 hj)
theorem right_ent {L : List EntD} (h : rightB L = true) {j : Nat} {e : EntD} (hj : L[j]? = some e) : entB e.1 e.2.1 e.2.2.1 e.2.2.2.1 e.2.2.2.2 = true := by
  have h1 := right_at h j (List.getElem?_eq_some_iff.1 hj).1
  cases g : entB e.1 e.2.1 e.2.2.1 e.2.2.2.1 e.2.2.2.2 with
  | true => rfl
  | false => rw [okAt_ent hj g] at h1; cases h1
theorem right_next {L : List EntD} (h : rightB L = true) {j : Nat} {d e : EntD} (hd : L[j]? = some d) (he : L[j + 1]? = some e) : lessB d.1 d.2.1 e.1 e.2.1 = true := by
  have h1 := right_at h (j + 1) (List.getElem?_eq_some_iff.1 he).1
  rw [okAt_succ he hd] at h1
  simp at h1
  exact h1.2
theorem right_less {L : List EntD} (h : rightB L = true) {i j : Nat} (hij : i < j) {d e : EntD} (hd : L[i]? = some d) (he : L[j]? = some e) : lessB d.1 d.2.1 e.1 e.2.1 = true := by
  induction j generalizing e with
  | zero => omega
  | succ j ih =>
    have hj : j < L.length := by have := (List.getElem?_eq_some_iff.1 he).1; omega
    have hg : L[j]? = some L[j] := List.getElem?_eq_getElem hj
    have hn := right_next h hg he
    by_cases e1 : i = j
    · subst e1
      rw [hg] at hd
      cases hd
      exact hn
    · exact lessB_trans (ih (by omega) hg) hn
theorem entB_seq {k t : ByteArray} {q d n : Int} (h : entB k q d t n = true) : 1 ≤ q ∧ q ≤ 100000 := by
  simp [entB] at h
  exact ⟨h.2.1, h.2.2.1⟩
theorem runB_parts {L : List EntD} {m : Int} (h : runB L m = true) : 1 ≤ L.length ∧ L.length ≤ 150 ∧ rightB L = true ∧ m = maskL L := by
  simpa [runB] using h
end Go.Proofs.YtapjkbpfhmbfaaaGreatDoor
