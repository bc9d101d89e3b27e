/-
  Plain functions: the legs of a currency that a posting yields.
-/
import Derived.Test.YtkeodfajgpbgaaaPlain
namespace Go.Proofs.Ytkeodfajgpbgaaa

/-- A leg that is ok. -/
abbrev LegY := { l : LegD // legB l = true }
/-- The legs of a currency, those that are ok. -/
def selY (cur : Int) : List LegD → List LegY
  | [] => []
  | l :: r => if h : legB l = true ∧ l.2.1 = cur then ⟨l, h.1⟩ :: selY cur r else selY cur r

theorem selY_append (cur : Int) (A B : List LegD) : selY cur (A ++ B) = selY cur A ++ selY cur B := by
  induction A with
  | nil => rfl
  | cons l r ih =>
    simp only [List.cons_append, selY]
    split
    · simp [ih]
    · exact ih

theorem selY_take_yes {cur : Int} {L : List LegD} {k : Nat} {l : LegD} (hk : L[k]? = some l) (hl : legB l = true) (hc : l.2.1 = cur) : selY cur (L.take (k + 1)) = selY cur (L.take k) ++ [⟨l, hl⟩] := by
  rw [List.take_add_one, hk, selY_append]
  simp [selY, hl, hc]
theorem selY_take_no {cur : Int} {L : List LegD} {k : Nat} {l : LegD} (hk : L[k]? = some l) (hc : ¬ l.2.1 = cur) : selY cur (L.take (k + 1)) = selY cur (L.take k) := by
  rw [List.take_add_one, hk, selY_append]
  simp [selY, hc]
theorem selY_prefix (cur : Int) (L : List LegD) (k : Nat) : selY cur (L.take k) <+: selY cur L := by
  conv => rhs; rw [← List.take_append_drop k L, selY_append]
  exact List.prefix_append _ _
theorem selY_lt {cur : Int} {L : List LegD} {k : Nat} {l : LegD} (hk : L[k]? = some l) (hl : legB l = true) (hc : l.2.1 = cur) : (selY cur (L.take k)).length < (selY cur L).length := by
  have h1 := (selY_prefix cur L (k + 1)).length_le
  rw [selY_take_yes hk hl hc] at h1
  simp at h1
  omega
theorem selY_len (cur : Int) (L : List LegD) : (selY cur L).length ≤ L.length := by
  induction L with
  | nil => simp [selY]
  | cons l r ih =>
    simp only [selY]
    split <;> simp <;> omega

/-- What a posting yields of a currency. -/
def yieldsOf (id : Int) (L : List LegD) (cur : Int) : List LegY := if postB id L = true then selY cur L else []

theorem postB_legs {id : Int} {L : List LegD} (h : postB id L = true) : ∀ l ∈ L, legB l = true := by
  simp [postB] at h
  intro l hl
  exact h.2.2.2.2 l.1 l.2.1 l.2.2 hl
theorem postB_len {id : Int} {L : List LegD} (h : postB id L = true) : L.length ≤ 4 := by
  simp [postB] at h
  exact h.2.2.2.1
theorem yieldsOf_len (id : Int) (L : List LegD) (cur : Int) : (yieldsOf id L cur).length ≤ 4 := by
  unfold yieldsOf
  split
  · rename_i h
    exact Nat.le_trans (selY_len cur L) (postB_len h)
  · simp

end Go.Proofs.Ytkeodfajgpbgaaa
