/-
  Plain: a posting that is cut between two legs yields the same in two.
-/
import Derived.Test.YtmolncbeaefjpaaFairP
namespace Go.Proofs.Ytmolncbeaefjpaa

theorem postB_part {id id' : Int} {L M : List LegD} (h : postB id L = true) (hi : 0 ≤ id') (hi2 : id' ≤ 99) (h1 : 1 ≤ M.length) (h2 : M.length ≤ L.length) (hm : ∀ l ∈ M, l ∈ L) : postB id' M = true := by
  have hl := postB_len h
  have hall : M.all legB = true := List.all_eq_true.2 (fun l hl' => postB_legs h l (hm l hl'))
  have h4 : M.length ≤ 4 := by omega
  simp [postB, hi, hi2, h1, h4, hall]
theorem postB_take {id : Int} {L : List LegD} (h : postB id L = true) {k : Nat} (h1 : 1 ≤ k) (h2 : k < L.length) : postB 1 (L.take k) = true :=
  postB_part h (by omega) (by omega) (by simp; omega) (by simp; omega) (fun _ hl => List.mem_of_mem_take hl)
theorem postB_drop {id : Int} {L : List LegD} (h : postB id L = true) {k : Nat} (h2 : k < L.length) : postB 2 (L.drop k) = true :=
  postB_part h (by omega) (by omega) (by simp; omega) (by simp) (fun _ hl => List.mem_of_mem_drop hl)
theorem yields_cut {id : Int} {L : List LegD} (h : postB id L = true) {k : Nat} (h1 : 1 ≤ k) (h2 : k < L.length) (cur : Int) : yieldsOf id L cur = yieldsOf 1 (L.take k) cur ++ yieldsOf 2 (L.drop k) cur := by
  unfold yieldsOf
  rw [if_pos h, if_pos (postB_take h h1 h2), if_pos (postB_drop h h2), ← selY_append, List.take_append_drop]
theorem atY_append (A B : List LegY) (k : List UInt8) : atY (A ++ B) k = atY A k + atY B k := by simp [atY]
theorem totY_append (A B : List LegY) : totY (A ++ B) = totY A + totY B := by simp [totY]
theorem fair_cut {id : Int} {L : List LegD} (h : postB id L = true) (hf : fairB id L = true) {k : Nat} (h1 : 1 ≤ k) (h2 : k < L.length) : fairB 1 (L.take k) = fairB 2 (L.drop k) := by
  have e : ∀ c, totY (yieldsOf id L c) = 0 → decide (totY (yieldsOf 1 (L.take k) c) = 0) = decide (totY (yieldsOf 2 (L.drop k) c) = 0) := by
    intro c hc
    rw [yields_cut h h1 h2, totY_append] at hc
    rw [Bool.eq_iff_iff]; simp only [decide_eq_true_iff]; omega
  simp only [fairB, h, Bool.true_and, Bool.and_eq_true, decide_eq_true_iff] at hf
  unfold fairB
  rw [postB_take h h1 h2, postB_drop h h2, e 1 hf.1, e 2 hf.2.1, e 3 hf.2.2]
end Go.Proofs.Ytmolncbeaefjpaa
