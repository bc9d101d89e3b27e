/-
  Plain: when times that are kept are right, and when entries are within a time; no statement of the program stands here.
-/
import Derived.Test.YtkeodfajgpbgaaaRuns
import Derived.Test.YtkeodfajgpbgaaaRunP
namespace Go.Proofs.Ytkeodfajgpbgaaa
open Go.RowKit

/-- No entry is above a time. -/
def withinB (M : List EntD) (q : Int) : Bool := M.all (fun e => decide (e.2.1 ≤ q))
theorem within_snoc {M : List EntD} {q : Int} {k : Nat} {e : EntD} (h : withinB (M.take k) q = true) (hk : M[k]? = some e) (he : e.2.1 ≤ q) : withinB (M.take (k + 1)) q = true := by
  unfold withinB at h ⊢
  rw [List.take_add_one, hk]
  simp only [Option.toList, List.all_append, h, List.all_cons, List.all_nil, Bool.and_true, Bool.true_and]
  exact decide_eq_true he
theorem within_no {M : List EntD} {q : Int} {k : Nat} {e : EntD} (hk : M[k]? = some e) (he : ¬ e.2.1 ≤ q) : withinB M q = false := by
  unfold withinB
  rw [Bool.eq_false_iff]
  intro h
  rw [List.all_eq_true] at h
  exact he (of_decide_eq_true (h e (List.mem_of_getElem? hk)))

/-- Time number i is right: from 0 to q, and above the one ahead. -/
def snapAt (S : List Int) (q : Int) (i : Nat) : Bool :=
  match S[i]? with
  | none => true
  | some s => decide (0 ≤ s) && (decide (s ≤ q) && (match i with | 0 => true | j + 1 => match S[j]? with | none => true | some p => decide (p < s)))
def SnapsTo (S : List Int) (q : Int) (k : Nat) : Prop := ∀ j, j < k → snapAt S q j = true
/-- Times that are kept are right. -/
def snapsB (S : List Int) (q : Int) : Bool := decide (S.length ≤ 4) && (List.range S.length).all (snapAt S q)
theorem snaps_many {S : List Int} {q : Int} (h : 4 < S.length) : snapsB S q = false := by
  unfold snapsB
  rw [decide_eq_false (by omega)]
  rfl
theorem snaps_no {S : List Int} {q : Int} {k : Nat} (hk : k < S.length) (h : snapAt S q k = false) : snapsB S q = false := by
  unfold snapsB
  rw [Bool.and_eq_false_iff]
  right
  rw [Bool.eq_false_iff]
  intro h1
  rw [List.all_eq_true] at h1
  rw [h1 k (List.mem_range.2 hk)] at h
  cases h
theorem snaps_all {S : List Int} {q : Int} (h : SnapsTo S q S.length) : snapsB S q = decide (S.length ≤ 4) := by
  unfold snapsB
  have : (List.range S.length).all (snapAt S q) = true := by
    rw [List.all_eq_true]
    intro j hj
    exact h j (List.mem_range.1 hj)
  rw [this, Bool.and_true]
theorem snaps_snoc {S : List Int} {q : Int} {k : Nat} (h : SnapsTo S q k) (hk : snapAt S q k = true) : SnapsTo S q (k + 1) := by
  intro j hj
  by_cases e : j = k
  · subst e; exact hk
  · exact h j (by omega)
theorem snap_zero {S : List Int} {q s : Int} (h : S[0]? = some s) : snapAt S q 0 = (decide (0 ≤ s) && decide (s ≤ q)) := by
  unfold snapAt
  rw [h]
  simp
theorem snap_succ {S : List Int} {q s p : Int} {j : Nat} (h : S[j + 1]? = some s) (hp : S[j]? = some p) : snapAt S q (j + 1) = (decide (0 ≤ s) && (decide (s ≤ q) && decide (p < s))) := by
  unfold snapAt
  simp only [h, hp]
theorem snap_low {S : List Int} {q s : Int} {k : Nat} (h : S[k]? = some s) (hs : s < 0) : snapAt S q k = false := by
  unfold snapAt
  rw [h]
  simp only
  rw [decide_eq_false (by omega)]
  rfl
theorem snap_high {S : List Int} {q s : Int} {k : Nat} (h : S[k]? = some s) (hs : q < s) : snapAt S q k = false := by
  unfold snapAt
  rw [h]
  simp only
  rw [decide_eq_false (p := s ≤ q) (by omega)]
  simp
end Go.Proofs.Ytkeodfajgpbgaaa
