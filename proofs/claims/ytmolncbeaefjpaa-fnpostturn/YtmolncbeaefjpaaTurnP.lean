/-
  Plain: legs in the other order, and legs with the other sign.
-/
import Derived.Test.YtmolncbeaefjpaaFairP
import Derived.Test.YtmolncbeaefjpaaLawLeg
import Derived.WalkArith
namespace Go.Proofs.Ytmolncbeaefjpaa

def negL (l : LegD) : LegD := (l.1, l.2.1, -l.2.2)
theorem legB_neg (l : LegD) : legB (negL l) = legB l := by
  unfold legB negL
  have h1 : decide (-1000 ≤ -l.2.2) = decide (l.2.2 ≤ 1000) := by rw [Bool.eq_iff_iff, decide_eq_true_iff, decide_eq_true_iff]; omega
  have h2 : decide (-l.2.2 ≤ 1000) = decide (-1000 ≤ l.2.2) := by rw [Bool.eq_iff_iff, decide_eq_true_iff, decide_eq_true_iff]; omega
  have h3 : decide (-l.2.2 ≠ 0) = decide (l.2.2 ≠ 0) := by rw [Bool.eq_iff_iff]; simp
  simp only [h1, h2, h3]
  cases acctB l.1 <;> cases decide (1 ≤ l.2.1) <;> cases decide (l.2.1 ≤ 3) <;> cases decide (-1000 ≤ l.2.2) <;> cases decide (l.2.2 ≤ 1000) <;> rfl
theorem legB_num {l : LegD} (h : legB l = true) : -1000 ≤ l.2.2 ∧ l.2.2 ≤ 1000 := by
  simp [legB] at h
  omega
theorem legW_neg {l : LegD} (h : LegW l) (hb : legB l = true) : LegW (negL l) := by
  have := legB_num hb
  exact ⟨h.1, h.2.1, WalkArith.wf_i64 (by show -9223372036854775808 ≤ -l.2.2 ∧ -l.2.2 ≤ 9223372036854775807; omega)⟩

theorem postB_same_legs {id : Int} {L M : List LegD} (hl : M.length = L.length) (ha : M.all legB = L.all legB) : postB id M = postB id L := by
  unfold postB
  rw [hl, ha]
theorem all_rev (L : List LegD) : L.reverse.all legB = L.all legB := by simp
theorem all_neg (L : List LegD) : (L.map negL).all legB = L.all legB := by
  induction L with
  | nil => rfl
  | cons l r ih => simp only [List.map_cons, List.all_cons, ih, legB_neg]
theorem postB_rev (id : Int) (L : List LegD) : postB id L.reverse = postB id L := postB_same_legs (by simp) (all_rev L)
theorem postB_neg (id : Int) (L : List LegD) : postB id (L.map negL) = postB id L := postB_same_legs (by simp) (all_neg L)

theorem selY_one (cur : Int) (l : LegD) (L : List LegD) : selY cur (l :: L) = selY cur [l] ++ selY cur L := selY_append cur [l] L
theorem atY_app (A B : List LegY) (k : List UInt8) : atY (A ++ B) k = atY A k + atY B k := by simp [atY]
theorem totY_app (A B : List LegY) : totY (A ++ B) = totY A + totY B := by simp [totY]
theorem at_rev (cur : Int) (L : List LegD) (k : List UInt8) : atY (selY cur L.reverse) k = atY (selY cur L) k := by
  induction L with
  | nil => rfl
  | cons l r ih =>
    rw [List.reverse_cons, selY_append, selY_one cur l r, atY_app, atY_app, ih]
    omega
theorem tot_rev (cur : Int) (L : List LegD) : totY (selY cur L.reverse) = totY (selY cur L) := by
  induction L with
  | nil => rfl
  | cons l r ih =>
    rw [List.reverse_cons, selY_append, selY_one cur l r, totY_app, totY_app, ih]
    omega
theorem at_neg1 (cur : Int) (l : LegD) (k : List UInt8) : atY (selY cur [negL l]) k = - atY (selY cur [l]) k := by
  have hb := legB_neg l
  by_cases h : legB l = true ∧ l.2.1 = cur
  · have h' : legB (negL l) = true ∧ (negL l).2.1 = cur := ⟨by rw [hb]; exact h.1, h.2⟩
    simp only [selY, h, h', and_self, dite_true, atY, List.map_cons, List.map_nil, List.sum_cons, List.sum_nil]
    have e1 : keyY ⟨negL l, h'.1⟩ = keyY ⟨l, h.1⟩ := rfl
    have e2 : numY ⟨negL l, h'.1⟩ = - numY ⟨l, h.1⟩ := rfl
    rw [e1, e2]
    split <;> omega
  · have h' : ¬ (legB (negL l) = true ∧ (negL l).2.1 = cur) := by rw [hb]; exact h
    simp only [selY, h, h', dite_false, atY, List.map_nil, List.sum_nil]
    rfl
theorem tot_neg1 (cur : Int) (l : LegD) : totY (selY cur [negL l]) = - totY (selY cur [l]) := by
  have hb := legB_neg l
  by_cases h : legB l = true ∧ l.2.1 = cur
  · have h' : legB (negL l) = true ∧ (negL l).2.1 = cur := ⟨by rw [hb]; exact h.1, h.2⟩
    simp only [selY, h, h', and_self, dite_true, totY, List.map_cons, List.map_nil, List.sum_cons, List.sum_nil]
    have e2 : numY ⟨negL l, h'.1⟩ = - numY ⟨l, h.1⟩ := rfl
    rw [e2]
    omega
  · have h' : ¬ (legB (negL l) = true ∧ (negL l).2.1 = cur) := by rw [hb]; exact h
    simp only [selY, h, h', dite_false, totY, List.map_nil, List.sum_nil]
    rfl
theorem at_neg (cur : Int) (L : List LegD) (k : List UInt8) : atY (selY cur (L.map negL)) k = - atY (selY cur L) k := by
  induction L with
  | nil => rfl
  | cons l r ih =>
    rw [List.map_cons, selY_one cur l r, selY_one cur (negL l), atY_app, atY_app, ih, at_neg1]
    omega
theorem tot_neg (cur : Int) (L : List LegD) : totY (selY cur (L.map negL)) = - totY (selY cur L) := by
  induction L with
  | nil => rfl
  | cons l r ih =>
    rw [List.map_cons, selY_one cur l r, selY_one cur (negL l), totY_app, totY_app, ih, tot_neg1]
    omega

theorem yAt_rev (id cur : Int) (L : List LegD) (k : List UInt8) : atY (yieldsOf id L.reverse cur) k = atY (yieldsOf id L cur) k := by
  unfold yieldsOf
  rw [postB_rev]
  split
  · exact at_rev cur L k
  · rfl
theorem yTot_rev (id cur : Int) (L : List LegD) : totY (yieldsOf id L.reverse cur) = totY (yieldsOf id L cur) := by
  unfold yieldsOf
  rw [postB_rev]
  split
  · exact tot_rev cur L
  · rfl
theorem yAt_neg (id cur : Int) (L : List LegD) (k : List UInt8) : atY (yieldsOf id (L.map negL) cur) k = - atY (yieldsOf id L cur) k := by
  unfold yieldsOf
  rw [postB_neg]
  split
  · exact at_neg cur L k
  · rfl
theorem yTot_neg (id cur : Int) (L : List LegD) : totY (yieldsOf id (L.map negL) cur) = - totY (yieldsOf id L cur) := by
  unfold yieldsOf
  rw [postB_neg]
  split
  · exact tot_neg cur L
  · rfl
theorem fairB_rev (id : Int) (L : List LegD) : fairB id L.reverse = fairB id L := by
  unfold fairB
  rw [postB_rev, yTot_rev, yTot_rev, yTot_rev]
theorem zero_neg (n : Int) : decide (-n = 0) = decide (n = 0) := by rw [Bool.eq_iff_iff]; simp
theorem fairB_neg (id : Int) (L : List LegD) : fairB id (L.map negL) = fairB id L := by
  unfold fairB
  rw [postB_neg, yTot_neg, yTot_neg, yTot_neg, zero_neg, zero_neg, zero_neg]

theorem rev_take_snoc {L : List LegD} {k : Nat} {l : LegD} (hk : k < L.length) (h : L[L.length - 1 - k]? = some l) : L.reverse.take (k + 1) = L.reverse.take k ++ [l] := by
  rw [List.take_add_one, List.getElem?_reverse hk, h]
  rfl
end Go.Proofs.Ytmolncbeaefjpaa
