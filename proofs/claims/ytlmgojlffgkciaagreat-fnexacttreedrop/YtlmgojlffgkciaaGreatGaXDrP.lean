/-
  What is left of the times that are kept when one is dropped: plain facts.
-/
import Derived.Test.YtlmgojlffgkciaaGreatGa09
namespace Go.Proofs.YtlmgojlffgkciaaGreat
theorem erase_take (S : List Int) (x : Int) : S.take (S.idxOf x) ++ S.drop (S.idxOf x + 1) = S.erase x := by
  rw [List.erase_eq_eraseIdx_of_idxOf rfl, List.eraseIdx_eq_take_drop_succ]
theorem filter_erase (S : List Int) (x : Int) (h : S.Nodup) : S.filter (fun y => decide (¬ y = x)) = S.erase x := by
  rw [h.erase_eq_filter]
  congr 1
  funext y
  simp [bne, BEq.beq]
theorem nodup_up {S : List Int} (h : ∀ i a b, S[i]? = some a → S[i+1]? = some b → a < b) : S.Nodup := by
  have key : ∀ (d i : Nat) (a b : Int), S[i]? = some a → S[i + d + 1]? = some b → a < b := by
    intro d
    induction d with
    | zero => intro i a b ha hb; exact h i a b ha hb
    | succ d ih =>
      intro i a b ha hb
      have hl := (List.getElem?_eq_some_iff.1 hb).1
      have hm := List.getElem?_eq_getElem (show i + d + 1 < S.length by omega)
      exact Int.lt_trans (ih i a _ ha hm) (h _ _ _ hm (by rw [← hb]; congr 1))
  rw [List.nodup_iff_pairwise_ne, List.pairwise_iff_getElem]
  intro i j hi hj hij e
  have h1 := key (j - i - 1) i S[i] S[j] (List.getElem?_eq_getElem hi) (by rw [← List.getElem?_eq_getElem hj]; congr 1; omega)
  omega
theorem filter_lt (S : List Int) (x : Int) : (S.filter (fun y => decide (¬ y = x))).length < S.length ↔ x ∈ S := by
  induction S with
  | nil => simp
  | cons a S ih =>
    have hle := List.length_filter_le (fun y => decide (¬ y = x)) S
    by_cases ha : a = x
    · subst ha
      simp
      simpa using Nat.lt_succ_of_le hle
    · have hb : (a :: S).filter (fun y => decide (¬ y = x)) = a :: S.filter (fun y => decide (¬ y = x)) := by simp [ha]
      rw [hb]
      simp only [List.length_cons, List.mem_cons]
      constructor
      · intro h; exact .inr (ih.1 (by omega))
      · rintro (h | h)
        · exact absurd h.symm ha
        · have := ih.2 h; omega
theorem snaps_nodup {S : List Int} {q : Int} (h : snapsB S q = true) : S.Nodup := by
  unfold snapsB at h
  rw [Bool.and_eq_true, List.all_eq_true] at h
  refine nodup_up fun i a b ha hb => ?_
  have hl := (List.getElem?_eq_some_iff.1 hb).1
  have h1 := h.2 (i + 1) (List.mem_range.2 hl)
  unfold snapAt at h1
  rw [hb] at h1
  simp only [ha, Bool.and_eq_true] at h1
  exact of_decide_eq_true h1.2.2
def dropL (S : List Int) (x : Int) : List Int := S.filter (fun y => decide (¬ y = x))
theorem drop_erase {S : List Int} {q x : Int} (h : snapsB S q = true) : S.take (S.idxOf x) ++ S.drop (S.idxOf x + 1) = dropL S x := by
  rw [erase_take, ← filter_erase S x (snaps_nodup h)]
  rfl
theorem drop_none {S : List Int} {x : Int} (h : x ∉ S) : dropL S x = S := by
  unfold dropL
  rw [List.filter_eq_self]
  intro y hy
  refine decide_eq_true (fun e => h (by rw [← e]; exact hy))
theorem drop_take {S : List Int} {x a : Int} {k : Nat} (h : S[k]? = some a) : dropL (S.take (k + 1)) x = if a = x then dropL (S.take k) x else dropL (S.take k) x ++ [a] := by
  unfold dropL
  rw [List.take_add_one, h, List.filter_append]
  by_cases ha : a = x <;> simp [ha]
theorem drop_len (S : List Int) (x : Int) : (dropL S x).length ≤ S.length := List.length_filter_le _ _
theorem drop_lt (S : List Int) (x : Int) : decide ((dropL S x).length < S.length) = decide (x ∈ S) := by
  rw [decide_eq_decide]
  exact filter_lt S x
theorem drop_mem {S : List Int} {x z : Int} (h : z ∈ dropL S x) : z ∈ S := (List.mem_filter.1 h).1
end Go.Proofs.YtlmgojlffgkciaaGreat
