/-
  Plain: what a heap of stretches gives out is what the document's sorting makes of all. No statement of the program stands here.
-/
import Derived.Test.YtlmgojlffgkciaaGreatGaXMgP
import Derived.Test.YtlmgojlffgkciaaGreatGa19
namespace Go.Proofs.YtlmgojlffgkciaaGreat
theorem lessE_asym {x y : EntD} (h : lessE x y = true) : lessE y x = false := by
  cases h' : lessE y x with
  | false => rfl
  | true =>
    have h1 : lessE x x = true := lessB_trans h h'
    unfold lessE at h1
    rw [lessB_self] at h1
    cases h1
theorem less_wk : Mg.Wk lessE := ⟨fun _ => lessB_self _ _, fun _ _ h => lessE_asym h, fun _ _ _ h1 h2 => lessE_ntrans h1 h2⟩
theorem put_filter (A : List EntD) (x e : EntD) : (putE A x).filter (Mg.eqv lessE e) = A.filter (Mg.eqv lessE e) ++ [x].filter (Mg.eqv lessE e) := by
  unfold putE
  rw [List.filter_append, List.filter_append]
  have hA : A.filter (Mg.eqv lessE e) = (A.take (plE A x A.length)).filter (Mg.eqv lessE e) ++ (A.drop (plE A x A.length)).filter (Mg.eqv lessE e) := by
    rw [← List.filter_append, List.take_append_drop]
  rw [hA]
  by_cases he : Mg.eqv lessE e x = true
  · have h0 : (A.drop (plE A x A.length)).filter (Mg.eqv lessE e) = [] := List.filter_eq_nil_iff.2 (fun y hy => by
      obtain ⟨k, hk⟩ := List.getElem?_of_mem hy
      rw [List.getElem?_drop] at hk
      have hl := (List.getElem?_eq_some_iff.1 hk).1
      have := plE_right A x A.length _ y (Nat.le_add_right _ k) hl hk
      rw [Mg.eqv_lt less_wk he this]
      simp)
    rw [h0]
    simp
  · have h0 : [x].filter (Mg.eqv lessE e) = [] := by simp [he]
    rw [h0]
    simp
theorem sort_filter (L : List EntD) (e : EntD) : (sortE L).filter (Mg.eqv lessE e) = L.filter (Mg.eqv lessE e) := by
  have key : ∀ (L A : List EntD), (L.foldl putE A).filter (Mg.eqv lessE e) = A.filter (Mg.eqv lessE e) ++ L.filter (Mg.eqv lessE e) := by
    intro L
    induction L with
    | nil => intro A; simp
    | cons x R ih =>
      intro A
      rw [List.foldl_cons, ih, put_filter, List.append_assoc, ← List.filter_append]
      rfl
  have := key L []
  simpa [sortE] using this
theorem sort_asc (L : List EntD) : Mg.Asc lessE (sortE L) := (sort_both L).1
theorem merge_done {flat out : List EntD} {Z : List (List EntD)} (h : Mg.MSt lessE flat out Z) (hH : Mg.HSt [] Z) : out = sortE flat := h.done less_wk hH.none (sort_asc flat) (sort_filter flat)
end Go.Proofs.YtlmgojlffgkciaaGreat
