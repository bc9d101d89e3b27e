/-
  Plain: entries of unlike times that are merged stand in order, in whatever order their lists came. No statement of the program stands here.
-/
import Derived.Test.YtkdalacclafihaaMgV
import Derived.Test.YtkdalacclafihaaCellS
namespace Go.Proofs.Ytkdalacclafihaa

theorem less_tot {x y : EntD} (h : lessE y x = false) (hne : x.2.1 ≠ y.2.1) : lessE x y = true := by
  have h1 := lessB_one x.1 y.1 x.2.1 y.2.1
  have h2 : decide (¬ x.2.1 = y.2.1) = true := decide_eq_true hne
  rw [h2, Bool.or_true] at h1
  unfold lessE at h ⊢
  rw [h, Bool.or_false] at h1
  exact h1
theorem weak_strict : ∀ {L : List EntD}, Weak L → UnT L → Strict L
  | [], _, _ => List.Pairwise.nil
  | x :: L, h, u => by
    obtain ⟨h1, h2⟩ := List.pairwise_cons.1 h
    obtain ⟨u1, u2⟩ := List.pairwise_cons.1 u
    exact List.pairwise_cons.2 ⟨fun y hy => less_tot (h1 y hy) (u1 y hy), weak_strict h2 u2⟩
theorem sort_strict {F : List EntD} (u : UnT F) : Strict (sortE F) := weak_strict (sort_both F).1 (u.perm (sort_both F).2.symm)
theorem sort_any {F G : List EntD} (u : UnT F) (p : F.Perm G) : sortE F = sortE G :=
  strict_weak (sort_strict u) (sort_both G).1 ((sort_both F).2.trans (p.trans (sort_both G).2.symm))
theorem sort_again {F : List EntD} (u : UnT F) : sortE (sortE F) = sortE F := (sort_any u (sort_both F).2.symm).symm
theorem strict_next {L : List EntD} (h : Strict L) {i : Nat} {x y : EntD} (hx : L[i]? = some x) (hy : L[i + 1]? = some y) : lessE x y = true := by
  obtain ⟨h1, rfl⟩ := List.getElem?_eq_some_iff.1 hx
  obtain ⟨h2, rfl⟩ := List.getElem?_eq_some_iff.1 hy
  exact (List.pairwise_iff_getElem.1 h) i (i + 1) h1 h2 (by omega)
instance mgEntDec : DecidableEq EntD := instDecidableEqProd
/-- An entry is among the first k. -/
def hasB (F : List EntD) (e : EntD) (k : Nat) : Bool := (F.take k).any (fun x => decide (x = e))
theorem hasB_zero (F : List EntD) (e : EntD) : hasB F e 0 = false := by simp [hasB]
theorem hasB_succ {F : List EntD} {e x : EntD} {k : Nat} (h : F[k]? = some x) : hasB F e (k + 1) = (hasB F e k || decide (x = e)) := by
  unfold hasB
  rw [List.take_add_one, h, List.any_append]
  simp
theorem hasB_all {F : List EntD} {e : EntD} {n : Nat} (h : e ∈ F) (hn : F.length = n) : hasB F e n = true := by
  unfold hasB
  rw [List.take_of_length_le (by omega), List.any_eq_true]
  exact ⟨e, h, decide_eq_true rfl⟩
theorem rev_flat (P : List (List EntD)) : P.reverse.flatten.Perm P.flatten := (List.reverse_perm P).flatten
theorem drop_len {P : List (List EntD)} {m : Nat} {L : List EntD} (h : P[m]? = some L) : (P.drop m).flatten.length = L.length + (P.drop (m + 1)).flatten.length := by
  obtain ⟨hl, rfl⟩ := List.getElem?_eq_some_iff.1 h
  rw [List.drop_eq_getElem_cons hl, List.flatten_cons, List.length_append]
theorem drop_rev {P : List (List EntD)} {m : Nat} {L : List EntD} (h : P[m]? = some L) : (P.drop m).reverse = (P.drop (m + 1)).reverse ++ [L] := by
  obtain ⟨hl, rfl⟩ := List.getElem?_eq_some_iff.1 h
  rw [List.drop_eq_getElem_cons hl, List.reverse_cons]
theorem drop_le (P : List (List EntD)) (m : Nat) : (P.drop m).flatten.length ≤ P.flatten.length := by
  have h : P.flatten = (P.take m).flatten ++ (P.drop m).flatten := by rw [← List.flatten_append, List.take_append_drop]
  rw [h, List.length_append]
  omega
end Go.Proofs.Ytkdalacclafihaa
