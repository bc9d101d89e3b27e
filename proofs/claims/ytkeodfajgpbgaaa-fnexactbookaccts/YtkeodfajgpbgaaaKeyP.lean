/-
  Plain functions on keys, entries and cells: no statement of the program stands here.
-/
import Derived.Test.YtkeodfajgpbgaaaPlain
import Derived.WalkKit
namespace Go.Proofs.Ytkeodfajgpbgaaa
open Go.RowKit

/-- A byte of a key. -/
def keyC (b : UInt8) : Bool := (decide (97 ≤ b.toNat) && decide (b.toNat ≤ 122)) || (decide (47 ≤ b.toNat) && decide (b.toNat ≤ 57))
/-- A key. -/
def keyB (s : ByteArray) : Bool := decide (1 ≤ s.size) && (decide (s.size ≤ 8) && s.data.toList.all keyC)

theorem keyC_true {b : UInt8} (h : keyC b = true) : (97 ≤ (b.toNat : Int) ∧ (b.toNat : Int) ≤ 122) ∨ (47 ≤ (b.toNat : Int) ∧ (b.toNat : Int) ≤ 57) := by
  simp [keyC] at h; omega
theorem keyC_false {b : UInt8} (h : keyC b = false) : (b.toNat : Int) < 47 ∨ (57 < (b.toNat : Int) ∧ (b.toNat : Int) < 97) ∨ 122 < (b.toNat : Int) := by
  simp [keyC] at h
  by_cases h1 : b.toNat < 47
  · exact Or.inl (by omega)
  · by_cases h2 : b.toNat < 97
    · exact Or.inr (Or.inl (by omega))
    · exact Or.inr (Or.inr (by omega))

theorem key_take_snoc (s : ByteArray) (k : Nat) (h : k < s.size) (ha : (s.data.toList.take k).all keyC = true) (hb : keyC s[k] = true) : (s.data.toList.take (k + 1)).all keyC = true := by
  rw [take_snoc_b s k h, List.all_append, ha]; simp [hb]
theorem key_false_of (s : ByteArray) (k : Nat) (h : k < s.size) (hb : keyC s[k] = false) : keyB s = false := by
  have : s.data.toList.all keyC = false := by
    rw [Bool.eq_false_iff]
    intro hall
    rw [List.all_eq_true] at hall
    have hm : s[k] ∈ s.data.toList := by
      have : s.data.toList[k]'(by simpa using h) = s[k] := rfl
      rw [← this]; exact List.getElem_mem _
    rw [hall _ hm] at hb
    cases hb
  unfold keyB; rw [this]; simp
theorem keyB_small (s : ByteArray) (h : s.size < 1) : keyB s = false := by
  unfold keyB; have : decide (1 ≤ s.size) = false := decide_eq_false (by omega)
  rw [this]; rfl
theorem keyB_big (s : ByteArray) (h : 8 < s.size) : keyB s = false := by
  unfold keyB; have : decide (s.size ≤ 8) = false := decide_eq_false (by omega)
  rw [this]; simp
theorem keyB_of_all (s : ByteArray) (k : Nat) (hk : s.size ≤ k) (ha : (s.data.toList.take k).all keyC = true) : keyB s = (decide (1 ≤ s.size) && decide (s.size ≤ 8)) := by
  unfold keyB
  rw [List.take_of_length_le (by simpa using hk)] at ha
  simp [ha]
theorem keyB_all (s : ByteArray) (h1 : 1 ≤ s.size) (h8 : s.size ≤ 8) (k : Nat) (hk : s.size ≤ k) (ha : (s.data.toList.take k).all keyC = true) : keyB s = true := by
  rw [keyB_of_all s k hk ha]; simp [h1, h8]
theorem sz8_yes (n : Nat) (h : 1 ≤ (n : Int)) : decide ((n : Int) ≤ 8) = (decide (1 ≤ n) && decide (n ≤ 8)) := by
  have h1 : decide (1 ≤ n) = true := decide_eq_true (by omega)
  rw [h1, Bool.true_and, Bool.eq_iff_iff]; simp; omega
theorem sz8_no (n : Nat) (h : (n : Int) < 1) : false = (decide (1 ≤ n) && decide (n ≤ 8)) := by
  have h1 : decide (1 ≤ n) = false := decide_eq_false (by omega)
  rw [h1]; rfl

/-- An entry: key, time, kind, text, number. -/
abbrev EntD := ByteArray × Int × Int × ByteArray × Int
/-- A cell: whether it has, text, number. -/
abbrev CellD := Bool × ByteArray × Int
def kindB (d : Int) (t : ByteArray) (n : Int) : Bool :=
  if d = 1 then true else if d = 2 then decide (t.size = 0) && decide (n = 0) else if d = 3 then decide (t.size = 0) else false
def entB (k : ByteArray) (q d : Int) (t : ByteArray) (n : Int) : Bool :=
  keyB k && (decide (1 ≤ q) && (decide (q ≤ 100000) && (decide (-1000000 ≤ n) && (decide (n ≤ 1000000) && (decide (t.size ≤ 60) && kindB d t n)))))
def cellDo (h : Bool) (t : ByteArray) (n : Int) (d : Int) (t' : ByteArray) (n' : Int) : CellD :=
  if d = 1 then (true, t', n') else if d = 2 then (false, ByteArray.empty, 0) else if d = 3 then (true, t, IntKind.i64.wrap (n + n')) else (h, t, n)

theorem entB_key {k t : ByteArray} {q d n : Int} (h : keyB k = false) : entB k q d t n = false := by simp [entB, h]
theorem entB_q1 {k t : ByteArray} {q d n : Int} (h : q < 1) : entB k q d t n = false := by
  have : decide (1 ≤ q) = false := decide_eq_false (by omega)
  simp [entB, this]
theorem entB_q2 {k t : ByteArray} {q d n : Int} (h : 100000 < q) : entB k q d t n = false := by
  have : decide (q ≤ 100000) = false := decide_eq_false (by omega)
  simp [entB, this]
theorem entB_n1 {k t : ByteArray} {q d n : Int} (h : n < -1000000) : entB k q d t n = false := by
  have : decide (-1000000 ≤ n) = false := decide_eq_false (by omega)
  simp [entB, this]
theorem entB_n2 {k t : ByteArray} {q d n : Int} (h : 1000000 < n) : entB k q d t n = false := by
  have : decide (n ≤ 1000000) = false := decide_eq_false (by omega)
  simp [entB, this]
theorem entB_t {k t : ByteArray} {q d n : Int} (h : 60 < t.size) : entB k q d t n = false := by
  have : decide (t.size ≤ 60) = false := decide_eq_false (by omega)
  simp [entB, this]
theorem entB_rest {k t : ByteArray} {q d n : Int} (h : keyB k = true) (h1 : 1 ≤ q) (h2 : q ≤ 100000) (h3 : -1000000 ≤ n) (h4 : n ≤ 1000000) (h5 : t.size ≤ 60) : entB k q d t n = kindB d t n := by
  simp [entB, h, h1, h2, h3, h4, h5]
theorem size_pos_of_ne {t : ByteArray} (h : t ≠ ByteArray.empty) : t.size ≠ 0 := by
  intro h0; apply h; apply ByteArray.ext; exact Array.eq_empty_of_size_eq_zero h0
theorem toList_ne {t : ByteArray} (h : t ≠ ByteArray.empty) : ¬ t.toList = [] := by
  intro h0; apply h; rw [ByteArray.toList_eq] at h0; apply ByteArray.ext; exact Array.toList_eq_nil_iff.1 h0
theorem kindB_1 {t : ByteArray} {n : Int} : kindB 1 t n = true := by simp [kindB]
theorem kindB_2 {t : ByteArray} {n : Int} : kindB 2 t n = (decide (t.size = 0) && decide (n = 0)) := by simp [kindB]
theorem kindB_3 {t : ByteArray} {n : Int} : kindB 3 t n = decide (t.size = 0) := by simp [kindB]
theorem kindB_0 {d : Int} {t : ByteArray} {n : Int} (h1 : d ≠ 1) (h2 : d ≠ 2) (h3 : d ≠ 3) : kindB d t n = false := by simp [kindB, h1, h2, h3]
theorem cellDo_1 {h : Bool} {t t' : ByteArray} {n n' : Int} : cellDo h t n 1 t' n' = (true, t', n') := by simp [cellDo]
theorem cellDo_2 {h : Bool} {t t' : ByteArray} {n n' : Int} : cellDo h t n 2 t' n' = (false, ByteArray.empty, 0) := by simp [cellDo]
theorem cellDo_3 {h : Bool} {t t' : ByteArray} {n n' : Int} : cellDo h t n 3 t' n' = (true, t, IntKind.i64.wrap (n + n')) := by simp [cellDo]
theorem cellDo_0 {h : Bool} {t t' : ByteArray} {n d n' : Int} (h1 : d ≠ 1) (h2 : d ≠ 2) (h3 : d ≠ 3) : cellDo h t n d t' n' = (h, t, n) := by simp [cellDo, h1, h2, h3]

end Go.Proofs.Ytkeodfajgpbgaaa
