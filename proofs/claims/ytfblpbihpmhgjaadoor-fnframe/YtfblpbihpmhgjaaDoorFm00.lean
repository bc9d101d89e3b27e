/-
  Plain functions on lists and numbers, out of which what the program answers is told: no statement of the program stands here.
  The text of a posting, plain; no statement of the program stands here.
-/
import Derived.WalkKit
import Derived.Lib.ItoaLen
namespace Go.Proofs.YtfblpbihpmhgjaaDoor
open Go.RowKit

/-- A small letter. -/
def lowB (b : UInt8) : Bool := decide (97 ≤ b.toNat) && decide (b.toNat ≤ 122)
/-- An account. -/
def acctB (s : ByteArray) : Bool := decide (1 ≤ s.size) && (decide (s.size ≤ 4) && s.data.toList.all lowB)
/-- A leg: account, currency, number. -/
abbrev LegD := ByteArray × Int × Int
def legB (l : LegD) : Bool := acctB l.1 && (decide (1 ≤ l.2.1) && (decide (l.2.1 ≤ 3) && (decide (-1000 ≤ l.2.2) && (decide (l.2.2 ≤ 1000) && decide (l.2.2 ≠ 0)))))
def postB (id : Int) (L : List LegD) : Bool := decide (0 ≤ id) && (decide (id ≤ 99) && (decide (1 ≤ L.length) && (decide (L.length ≤ 4) && L.all legB)))

theorem take_snoc_b (s : ByteArray) (k : Nat) (h : k < s.size) : s.data.toList.take (k + 1) = s.data.toList.take k ++ [s[k]] := by
  rw [List.take_succ_eq_append_getElem (by simpa using h)]; rfl

theorem all_take_snoc (s : ByteArray) (k : Nat) (h : k < s.size) (ha : (s.data.toList.take k).all lowB = true) (hb : lowB s[k] = true) : (s.data.toList.take (k + 1)).all lowB = true := by
  rw [take_snoc_b s k h, List.all_append, ha]; simp [hb]

theorem all_false_of (s : ByteArray) (k : Nat) (h : k < s.size) (hb : lowB s[k] = false) : s.data.toList.all lowB = false := by
  rw [Bool.eq_false_iff]
  intro hall
  rw [List.all_eq_true] at hall
  have hm : s[k] ∈ s.data.toList := by
    have : s.data.toList[k]'(by simpa using h) = s[k] := rfl
    rw [← this]; exact List.getElem_mem _
  rw [hall _ hm] at hb
  cases hb

theorem acctB_false_of (s : ByteArray) (k : Nat) (h : k < s.size) (hb : lowB s[k] = false) : acctB s = false := by
  unfold acctB; rw [all_false_of s k h hb]; simp

theorem acctB_small (s : ByteArray) (h : s.size < 1) : acctB s = false := by
  unfold acctB; have : decide (1 ≤ s.size) = false := decide_eq_false (by omega)
  rw [this]; rfl
theorem acctB_big (s : ByteArray) (h : 4 < s.size) : acctB s = false := by
  unfold acctB; have : decide (s.size ≤ 4) = false := decide_eq_false (by omega)
  rw [this]; simp
theorem acctB_all (s : ByteArray) (h1 : 1 ≤ s.size) (h4 : s.size ≤ 4) (k : Nat) (hk : s.size ≤ k) (ha : (s.data.toList.take k).all lowB = true) : acctB s = true := by
  unfold acctB
  rw [List.take_of_length_le (by simpa using hk)] at ha
  simp [h1, h4, ha]
theorem acctB_of_all (s : ByteArray) (k : Nat) (hk : s.size ≤ k) (ha : (s.data.toList.take k).all lowB = true) : acctB s = (decide (1 ≤ s.size) && decide (s.size ≤ 4)) := by
  unfold acctB
  rw [List.take_of_length_le (by simpa using hk)] at ha
  simp [ha]

theorem lowB_true {b : UInt8} (h : lowB b = true) : 97 ≤ (b.toNat : Int) ∧ (b.toNat : Int) ≤ 122 ∧ b.toNat < 128 := by
  simp [lowB] at h; omega
theorem lowB_false {b : UInt8} (h : lowB b = false) : (b.toNat : Int) < 97 ∨ 122 < (b.toNat : Int) := by
  simp [lowB] at h
  by_cases h1 : 97 ≤ b.toNat
  · right; have := h h1; omega
  · left; omega

theorem sz_yes (n : Nat) (h : 1 ≤ (n : Int)) : decide ((n : Int) ≤ 4) = (decide (1 ≤ n) && decide (n ≤ 4)) := by
  have h1 : decide (1 ≤ n) = true := decide_eq_true (by omega)
  rw [h1, Bool.true_and, Bool.eq_iff_iff]; simp; omega
theorem sz_no (n : Nat) (h : (n : Int) < 1) : false = (decide (1 ≤ n) && decide (n ≤ 4)) := by
  have h1 : decide (1 ≤ n) = false := decide_eq_false (by omega)
  rw [h1]; rfl
theorem ret_bool {a b : Bool} (h : a = b) : Ending.returned (.bool a) = .returned (.bool b) := by rw [h]
theorem ret_int {k : IntKind} {a b : Int} (h : a = b) : Ending.returned (.int k a) = .returned (.int k b) := by rw [h]
theorem width_pos (s : ByteArray) (pos : Nat) (h : pos < s.size) : 1 ≤ (Utf8.decode s pos).2 := by
  by_cases ha : (s[pos]'h).toNat < 128
  · rw [decode_ascii s pos h ha]; exact Nat.le_refl _
  · exact (decode_high s pos h (by omega)).2
theorem below_iter (w : World) (s : ByteArray) (pos : Nat) : Below w.heap.size w (w.iter s pos) := (Below.refl _ _).alloc (Nat.le_refl _) _

end Go.Proofs.YtfblpbihpmhgjaaDoor

namespace Go.Proofs.YtfblpbihpmhgjaaDoor
open Go.RowKit

def legT (l : LegD) : List UInt8 := 32 :: (l.1.data.toList ++ 58 :: (Lib.itoa l.2.1 ++ 58 :: Lib.itoa l.2.2))
def legsT : List LegD → List UInt8
  | [] => []
  | l :: r => legT l ++ legsT r
def postT (id : Int) (L : List LegD) : List UInt8 := Lib.itoa id ++ legsT L
def textB (id : Int) (L : List LegD) : ByteArray := if postB id L = true then ⟨(postT id L).toArray⟩ else ⟨#[]⟩

theorem legsT_append (A B : List LegD) : legsT (A ++ B) = legsT A ++ legsT B := by
  induction A with
  | nil => rfl
  | cons l r ih => simp [legsT, ih]
theorem legsT_take {L : List LegD} {k : Nat} {l : LegD} (h : L[k]? = some l) : legsT (L.take (k + 1)) = legsT (L.take k) ++ legT l := by
  rw [List.take_add_one, h, legsT_append]
  simp [legsT]
theorem legB_parts {l : LegD} (h : legB l = true) : 1 ≤ l.1.size ∧ l.1.size ≤ 4 ∧ 1 ≤ l.2.1 ∧ l.2.1 ≤ 3 ∧ -1000 ≤ l.2.2 ∧ l.2.2 ≤ 1000 := by
  simp only [legB, acctB, Bool.and_eq_true, decide_eq_true_eq] at h
  exact ⟨h.1.1, h.1.2.1, h.2.1, h.2.2.1, h.2.2.2.1, h.2.2.2.2.1⟩
theorem legT_len {l : LegD} (h : legB l = true) : (legT l).length ≤ 50 := by
  obtain ⟨_, h1, h2, h3, h4, h5⟩ := legB_parts h
  have e1 := Lib.itoa_length_le l.2.1 (by omega) (by omega)
  have e2 := Lib.itoa_length_le l.2.2 (by omega) (by omega)
  have e3 : l.1.data.toList.length = l.1.size := by rw [Array.length_toList]; rfl
  simp only [legT, List.length_cons, List.length_append]
  omega
theorem legsT_len : ∀ (L : List LegD), (∀ l ∈ L, legB l = true) → (legsT L).length ≤ 50 * L.length
  | [], _ => by simp [legsT]
  | l :: r, h => by
    have h1 := legT_len (h l (by simp))
    have h2 := legsT_len r (fun x hx => h x (by simp [hx]))
    simp only [legsT, List.length_append, List.length_cons]
    omega
theorem textB_no {id : Int} {L : List LegD} (h : postB id L = false) : textB id L = ⟨#[]⟩ := by unfold textB; rw [h]; simp
theorem textB_yes {id : Int} {L : List LegD} (h : postB id L = true) : textB id L = ⟨(postT id L).toArray⟩ := by unfold textB; rw [if_pos h]
theorem postB_all {id : Int} {L : List LegD} (h : postB id L = true) : 0 ≤ id ∧ id ≤ 99 ∧ 1 ≤ L.length ∧ L.length ≤ 4 ∧ ∀ l ∈ L, legB l = true := by
  simp only [postB, Bool.and_eq_true, decide_eq_true_eq, List.all_eq_true] at h
  exact ⟨h.1, h.2.1, h.2.2.1, h.2.2.2.1, h.2.2.2.2⟩
theorem str_app (a b : List UInt8) : (⟨a.toArray⟩ : ByteArray) ++ ⟨b.toArray⟩ = ⟨(a ++ b).toArray⟩ := by
  apply ByteArray.ext
  apply Array.toList_inj.1
  simp
theorem str_size (a : List UInt8) : (⟨a.toArray⟩ : ByteArray).size = a.length := by show a.toArray.size = _; simp
theorem str_self (s : ByteArray) : (⟨s.data.toList.toArray⟩ : ByteArray) = s := by apply ByteArray.ext; simp

end Go.Proofs.YtfblpbihpmhgjaaDoor
