/-
  Plain: a right run cut in two; no statement of the program stands here.
-/
import Derived.Test.YtkhnknpacdmikaaMoreP
namespace Go.Proofs.Ytkhnknpacdmikaa
open Go.RowKit

theorem weak_right {L : List EntD} (h : rightB L = true) : Weak L := by
  refine (right_strict h).imp ?_
  intro a b hab
  exact lessB_asymm hab
theorem sort_right {L : List EntD} (h : rightB L = true) : sortE L = L := ((sorted_same (weak_right h) (List.Perm.refl L)).2 h).symm
theorem right_sub {L M : List EntD} (h : rightB L = true) (hs : M.Sublist L) : rightB M = true :=
  right_of_strict (List.Pairwise.sublist hs (right_strict h)) (fun e he => right_all h e (hs.subset he))
theorem of_right {L : List EntD} (h : rightB L = true) (h1 : 1 ≤ L.length) (h2 : L.length ≤ 150) : ofB L = true ∧ ofL L = L ∧ runB L (ofM L) = true := by
  have e : ofB L = true := by
    unfold ofB
    rw [sort_right h, h]
    simp [h1, h2]
  obtain ⟨k1, k2, k3⟩ := of_run e
  rw [sort_right h] at k2
  rw [k2] at k1
  exact ⟨e, k2, k1⟩
theorem found_right {L : List EntD} (h : rightB L = true) (h1 : 1 ≤ L.length) (h2 : L.length ≤ 150) (key : ByteArray) (seq : Int) : foundL (ofL L) (ofM L) key seq = findL L key seq := by
  obtain ⟨k1, k2, k3⟩ := of_right h h1 h2
  unfold foundL
  rw [k2, if_pos k3]
theorem find_cut (L : List EntD) (k : Nat) (key : ByteArray) (seq : Int) : findL (L.take k) key seq ++ findL (L.drop k) key seq = findL L key seq := by
  unfold findL
  rw [← List.filter_append, List.take_append_drop]
theorem may_cut {L : List EntD} {k : Nat} {key : ByteArray} {seq : Int} {m m' : Int} (h1 : runB (L.take k) m = true) (h2 : runB (L.drop k) m' = true) (ha : mayB (L.take k) m key = false) (hb : mayB (L.drop k) m' key = false) : findL L key seq = [] := by
  rw [← find_cut L k key seq, find_none h1 ha, find_none h2 hb]
  rfl
end Go.Proofs.Ytkhnknpacdmikaa
