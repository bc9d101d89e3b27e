/-
  The text of a posting, plain; no statement of the program stands here.
-/
import Derived.Test.YtcabinakcmpkeaaDoorPlain
import Derived.Lib.ItoaLen
namespace Go.Proofs.YtcabinakcmpkeaaDoor
open Go.RowKit

def legT (l : LegD) : List UInt8 := 32 :: (l.1.data.toList ++ 58 :: (Lib.itoa l.2.1 ++ 58 :: Lib.itoa l.2.2))
def legsT : List LegD → List UInt8
  | [] => []
  | l :: r => legT l ++ legsT r
def postT (id : Int) (L : List LegD) : List UInt8 := Lib.itoa id ++ legsT L
def textB (id : Int) (L : List LegD) : ByteArray := if postB id L = true then ⟨(postT id L).toArray⟩ else ⟨#[]⟩

theorem legsT_append (A B : List LegD) : legsT (A ++ B) = legsT A ++ legsT B := by
  induction A with
  | nil => rfl
  | cons l r ih => simp [legsT, ih]
theorem legsT_take {L : List LegD} {k : Nat} {l : LegD} (h : L[k]? = some l) : legsT (L.take (k + 1)) = legsT (L.take k) ++ legT l := by
  rw [List.take_add_one, h, legsT_append]
  simp [legsT]
theorem legB_parts {l : LegD} (h : legB l = true) : 1 ≤ l.1.size ∧ l.1.size ≤ 4 ∧ 1 ≤ l.2.1 ∧ l.2.1 ≤ 3 ∧ -1000 ≤ l.2.2 ∧ l.2.2 ≤ 1000 := by
  simp only [legB, acctB, Bool.and_eq_true, decide_eq_true_eq] at h
  exact ⟨h.1.1, h.1.2.1, h.2.1, h.2.2.1, h.2.2.2.1, h.2.2.2.2.1⟩
theorem legT_len {l : LegD} (h : legB l = true) : (legT l).length ≤ 50 := by
  obtain ⟨_, h1, h2, h3, h4, h5⟩ := legB_parts h
  have e1 := Lib.itoa_length_le l.2.1 (by omega) (by omega)
  have e2 := Lib.itoa_length_le l.2.2 (by omega) (by omega)
  have e3 : l.1.data.toList.length = l.1.size := by rw [Array.length_toList]; rfl
  simp only [legT, List.length_cons, List.length_append]
  omega
theorem legsT_len : ∀ (L : List LegD), (∀ l ∈ L, legB l = true) → (legsT L).length ≤ 50 * L.length
  | [], _ => by simp [legsT]
  | l :: r, h => by
    have h1 := legT_len (h l (by simp))
    have h2 := legsT_len r (fun x hx => h x (by simp [hx]))
    simp only [legsT, List.length_append, List.length_cons]
    omega
theorem textB_no {id : Int} {L : List LegD} (h : postB id L = false) : textB id L = ⟨#[]⟩ := by unfold textB; rw [h]; simp
theorem textB_yes {id : Int} {L : List LegD} (h : postB id L = true) : textB id L = ⟨(postT id L).toArray⟩ := by unfold textB; rw [if_pos h]
theorem postB_all {id : Int} {L : List LegD} (h : postB id L = true) : 0 ≤ id ∧ id ≤ 99 ∧ 1 ≤ L.length ∧ L.length ≤ 4 ∧ ∀ l ∈ L, legB l = true := by
  simp only [postB, Bool.and_eq_true, decide_eq_true_eq, List.all_eq_true] at h
  exact ⟨h.1, h.2.1, h.2.2.1, h.2.2.2.1, h.2.2.2.2⟩
theorem str_app (a b : List UInt8) : (⟨a.toArray⟩ : ByteArray) ++ ⟨b.toArray⟩ = ⟨(a ++ b).toArray⟩ := by
  apply ByteArray.ext
  apply Array.toList_inj.1
  simp
theorem str_size (a : List UInt8) : (⟨a.toArray⟩ : ByteArray).size = a.length := by show a.toArray.size = _; simp
theorem str_self (s : ByteArray) : (⟨s.data.toList.toArray⟩ : ByteArray) = s := by apply ByteArray.ext; simp

end Go.Proofs.YtcabinakcmpkeaaDoor
